import Derived.Test.YtcagphgmfbjneaaGreatP26
namespace Go.Proofs.Z
variable{Zp:Prop}
open Tryz Go.RowKit Flt
set_option maxRecDepth 1000000
set_option maxHeartbeats 0
section
variable{ins:List Int}{st b N:LSt}{f a s x k:Nat}{vs0 vs us:List Vl}{j op c q:Int}{bw:List Nat}{t:List UInt8}{r:Rs (LSt×Nat)}
def GVal(ins:List Int)(vs:List Vl):Prop:=(∀i,i<vs.length->okV ins vs i=true)/\∀v∈vs,v.k<18446744073709551616
def Ln(vs:List Vl)(j n:Int):Prop:=0<=j/\j<(vs.length:Int)/\(vs.getD j.toNat h9).len=n
theorem Ln.app{n}(h:Ln vs j n)(us):Ln (vs++us) j n:=by
 obtain⟨F,h2,h3⟩:=h;refine⟨F,by grind,?_⟩;grind
theorem ij(vs v){n}(hj:j=(vs.length:Int))(aN:v.len=n):Ln (vs++[v]) j n:=by
 subst hj;refine⟨by omega,by grind,?_⟩;simp_all
theorem GVal.len(g:GVal ins vs){n}(h:Ln vs j n):1<=n/\n<=1000:=by
 obtain⟨F,h2,h3⟩:=h;have:=gi (g.1 j.toNat xaa);omega
theorem GVal.push(g:GVal ins vs)(v)(ak:v.op≠0)(ai:1<=v.len/\v.len<=1000)(O:v.k<18446744073709551616)(aw:fF v=true)(ho:∀o∈fo v,0<=o/\o<(vs.length:Int))(d:eQ v.op v.len v.c ((fo v).map λo=>(vs.getD o.toNat h9).len)=true):GVal ins (vs++[v]):=by
 refine⟨λi hi=>?_,uC g.2 O⟩;rw[yal,List.length_singleton]at hi;by_cases c:i<vs.length
 ·exact sU c (g.1 i c)
 grind[yj]
theorem GVal.p1(g:GVal ins vs){n}(ag:1<=n/\n<=1000)(O:k<18446744073709551616):GVal ins (vs++[⟨1,n,0,0,0,k⟩]):=
 g.push _ (by grind) ag O (by simp[fF,cnt,g7]) (by intro o h;simp[fo,cnt]at h) (by simp[fo,cnt,eQ])
theorem GVal.z(g:GVal ins vs){n}(ag:1<=n/\n<=1000):GVal ins (vs++[eJ 1 n 0 0 0]):=g.p1 ag xab
theorem GVal.two(g:GVal ins vs){n p}(ho:op=2\/op=3\/op=4\/op=5\/op=7)(aQ:Ln vs p n)(aA:Ln vs q n):GVal ins (vs++[eJ op n p q 0]):=by
 have ag:=g.len aQ;obtain⟨bk,p2,a6⟩:=aQ;rw[yai]at a6;obtain⟨ay,aB,bz⟩:=aA;rw[yai]at bz;refine g.push _ (by grind) ag (by grind) ?_ ?_ ?_
 ·rcases ho with rfl|rfl|rfl|rfl|rfl<;>grind[fF,cnt]
 ·grind[fo]
 rcases ho with rfl|rfl|rfl|rfl|rfl<;>grind[fo,cnt,eQ]
theorem GVal.one(g:GVal ins vs){n p}(ho:op=6\/op=13)(aQ:Ln vs p n):GVal ins (vs++[eJ op n p 0 0]):=by
 have ag:=g.len aQ;obtain⟨bk,p2,a6⟩:=aQ;rw[yai]at a6;refine g.push _ (by grind) ag (by grind) ?_ ?_ ?_
 ·grind[fF,cnt]
 ·grind[fo]
 rcases ho with rfl|rfl<;>simp[fo,cnt,eQ,a6]
theorem GVal.sel(g:GVal ins vs){n d p}(aO:Ln vs d n)(aQ:Ln vs p n)(aA:Ln vs q n):GVal ins (vs++[eJ 8 n d p q]):=by
 have ag:=g.len aQ;obtain⟨aM,bi,aI⟩:=aO;rw[yai]at aI;obtain⟨bk,p2,a6⟩:=aQ;rw[yai]at a6;obtain⟨ay,aB,bz⟩:=aA;rw[yai]at bz;refine g.push _ (by grind) ag (by grind) ?_ ?_ ?_
 ·simp[fF,cnt,g7]
 ·grind[fo]
 simp[fo,cnt,eQ,aI,a6,bz]
theorem GVal.p9(g:GVal ins vs){l p}(aQ:Ln vs p l):GVal ins (vs++[eJ 9 1 p 0 0]):=by
 have ag:=g.len aQ;obtain⟨bk,p2,a6⟩:=aQ;rw[yai]at a6;refine g.push _ (by grind) ⟨by grind,by grind⟩ (by grind) ?_ ?_ ?_
 ·simp[fF,cnt,g7]
 ·grind[fo]
 simp[fo,cnt,eQ,a6,lenB,ag]
theorem GVal.p10(g:GVal ins vs){n p}(ag:1<=n/\n<=1000)(aQ:Ln vs p 1):GVal ins (vs++[eJ 10 n p 0 0]):=by
 obtain⟨bk,p2,a6⟩:=aQ;rw[yai]at a6;refine g.push _ (by grind) ag (by grind) ?_ ?_ ?_
 ·simp[fF,cnt,g7]
 ·grind[fo]
 simp[fo,cnt,eQ,a6]
theorem GVal.p11(g:GVal ins vs){l p}(aQ:Ln vs p l)(al:0<=c/\c<l):GVal ins (vs++[eJ 11 1 p 0 c]):=by
 have ag:=g.len aQ;obtain⟨bk,p2,a6⟩:=aQ;rw[yai]at a6;refine g.push _ (by grind) ⟨by grind,by grind⟩ (by grind) ?_ ?_ ?_
 ·simp[fF,cnt,g7]
 ·grind[fo,cnt]
 grind[fo,cnt,eQ,lenB,gm]
theorem GVal.p12(g:GVal ins vs){n p}(ag:1<=n/\n<=1000)(aQ:Ln vs p 1)(al:0<=c/\c<n):GVal ins (vs++[eJ 12 n p 0 c]):=by
 obtain⟨bk,p2,a6⟩:=aQ;rw[yai]at a6;refine g.push _ (by grind) ag (by grind) ?_ ?_ ?_
 ·simp[fF,cnt,g7]
 ·grind[fo,cnt]
 simp[fo,cnt,eQ,a6,gm,al]
def Put(ins:List Int)(vs:List Vl)(n:Int)(M:List Vl×Int):Prop:=GVal ins (vs++M.1)/\Ln (vs++M.1) M.2 n
def ym(ins:List Int)(vs:List Vl)(n:Int)(M:List Vl×Int):Prop:=GVal ins (vs++M.1)/\(M.2=-1\/Ln (vs++M.1) M.2 n)
theorem Put.o{n M}(h:Put ins vs n M):ym ins vs n M:=⟨h.1,.inr h.2⟩
section
variable{ins:List Int}{vs:List Vl}{n r:Int}
theorem put0(g:GVal ins vs)(h:Ln vs r n):Put ins vs n ([],r):=⟨by simpa using g,by simpa using h⟩
theorem Ec(g:GVal ins vs):ym ins vs n ([],-1):=⟨by simpa using g,.inl rfl⟩
theorem put1{a}(g:GVal ins (vs++[a]))(h:a.len=n)(aF:r=(vs.length:Int)):Put ins vs n ([a],r):=⟨g,ij vs a aF h⟩
theorem put2{a b}(g:GVal ins ((vs++[a])++[b]))(h:b.len=n)(aF:r=((vs.length+1:Nat):Int)):Put ins vs n ([a,b],r):=by
 have h2:=ij (vs++[a]) b (j:=r) (by grind) h;rw[List.append_assoc]at g h2;exact⟨g,h2⟩
theorem put3{a b c}(g:GVal ins (((vs++[a])++[b])++[c]))(h:c.len=n)(aF:r=((vs.length+2:Nat):Int)):Put ins vs n ([a,b,c],r):=by
 have h2:=ij ((vs++[a])++[b]) c (j:=r) (by rw[aF];simp) h;simp only[List.append_assoc]at g h2;exact⟨g,h2⟩
theorem Rc{a b c d}(g:GVal ins ((((vs++[a])++[b])++[c])++[d]))(h:d.len=n)(aF:r=((vs.length+3:Nat):Int)):Put ins vs n ([a,b,c,d],r):=by
 have h2:=ij (((vs++[a])++[b])++[c]) d (j:=r) (by rw[aF];simp) h;simp only[List.append_assoc]at g h2;exact⟨g,h2⟩
end
def jl(vs:List Vl)(j:Int):Int:=(vs.getD j.toNat h9).len
section
variable{ins:List Int}{vs:List Vl}{i:Nat}{v:Vl}
theorem lE(ok:okV ins vs i=true)(e:vs.getD i h9=v)(ak:v.op≠0):eQ v.op v.len v.c ((fo v).map λo=>jl vs o)=true/\fF v=true:=by
 unfold okV at ok;rw[e,h6 ak,Bool.and_eq_true,Bool.and_eq_true,Bool.and_eq_true]at ok;exact⟨ok.2.2,ok.1.2⟩
theorem pY(ok:okV ins vs i=true)(hi:i<vs.length)(e:vs.getD i h9=v){q}(aA:q<cnt v.op):Ln vs (fld v q) (jl vs (fld v q)):=by
 have h:=mE ok q (by grind);rw[e]at h;exact⟨h.1,by omega,rfl⟩
theorem G1(ok:okV ins vs i=true)(_hi:i<vs.length)(e:vs.getD i h9=v)(ho:v.op=2\/v.op=3\/v.op=4\/v.op=5\/v.op=7):cnt v.op=2/\jl vs v.a=v.len/\jl vs v.b=v.len:=by
 have h:=(lE ok e xaa).1;have al:cnt v.op=2:=by rcases ho with c|c|c|c|c<;>(rw[c];rfl)
 grind[fo,eQ]
theorem yn(ok:okV ins vs i=true)(e:vs.getD i h9=v)(ho:v.op=6\/v.op=13):cnt v.op=1/\jl vs v.a=v.len/\v.c=0:=by
 grind[lE,cnt,g7,fo,eQ,fF]
theorem G2(ok:okV ins vs i=true)(e:vs.getD i h9=v)(ho:v.op=8):cnt v.op=3/\jl vs v.a=v.len/\jl vs v.b=v.len/\jl vs v.c=v.len:=by
 grind[lE,cnt,fo,eQ]
theorem Qg(ok:okV ins vs i=true)(e:vs.getD i h9=v)(ho:v.op=9):cnt v.op=1/\v.len=1/\v.c=0:=by
 obtain⟨h,aw⟩:=lE ok e xaa;grind[cnt,g7,eQ,fF]
theorem M0(ok:okV ins vs i=true)(e:vs.getD i h9=v)(ho:v.op=10):cnt v.op=1/\jl vs v.a=1/\v.c=0:=by
 grind[lE,cnt,g7,fo,eQ,fF]
theorem M3(ok:okV ins vs i=true)(e:vs.getD i h9=v)(ho:v.op=11):cnt v.op=1/\v.len=1/\0<=v.c/\v.c<jl vs v.a:=by
 grind[lE,cnt,fo,eQ,gm]
theorem M4(ok:okV ins vs i=true)(e:vs.getD i h9=v)(ho:v.op=12):cnt v.op=1/\jl vs v.a=1/\0<=v.c/\v.c<v.len:=by
 grind[lE,cnt,fo,eQ,gm]
theorem G3(ok:okV ins vs i=true)(e:vs.getD i h9=v):v.op=0\/(1<=v.op/\v.op<=13):=by
 by_cases ak:v.op=0
 ·exact .inl ak
 have h:=(lE ok e ak).1;grind[eQ]
theorem KE(g:GVal ins vs){n p q}(aQ:p=-1\/Ln vs p n)(aA:q=-1\/Ln vs q n):ym ins vs n (zx n p q vs.length):=by
 unfold zx;by_cases c:p=-1
 ·rw[h7 c];rcases aA with rfl|aA
  ·exact Ec g
  exact(put0 g aA).o
 have C:=aQ.resolve_left c;rw[h6 c];by_cases d:q=-1
 ·rw[h7 d];exact(put0 g C).o
 rw[h6 d];exact(put1 (g.two (.inl rfl) C (aA.resolve_left d)) rfl rfl).o
theorem KF(g:GVal ins vs){n p q}(aQ:p=-1\/Ln vs p n)(aA:q=-1\/Ln vs q n):ym ins vs n (zy n p q vs.length):=by
 unfold zy;by_cases d:q=-1
 ·rw[h7 d];rcases aQ with rfl|aQ
  ·exact Ec g
  exact(put0 g aQ).o
 have u:=aA.resolve_left d;rw[h6 d];by_cases c:p=-1
 ·rw[h7 c];exact(put1 (g.one (.inl rfl) u) rfl rfl).o
 rw[h6 c];exact(put1 (g.two (.inr (.inl rfl)) (aQ.resolve_left c) u) rfl rfl).o
theorem G4(g:GVal ins vs){n d p q}(aO:Ln vs d n)(aQ:p=-1\/Ln vs p n)(aA:q=-1\/Ln vs q n):Put ins vs n (chM n d p q vs.length):=by
 have ag:=g.len aO;have z:=g.z ag;have bQ:Ln (vs++[eJ 1 n 0 0 0]) _ n:=ij _ _ rfl rfl;unfold chM;by_cases c:p=-1
 ·rw[h7 c];by_cases e:q=-1
  ·rw[h7 e];exact put3 ((z.z ag).sel ((aO.app _).app _) (bQ.app _) (ij _ _ xac rfl)) rfl rfl
  rw[h6 e];exact put2 (z.sel (aO.app _) bQ ((aA.resolve_left e).app _)) rfl rfl
 have C:=aQ.resolve_left c;rw[h6 c];by_cases e:q=-1
 ·rw[h7 e];exact put2 (z.sel (aO.app _) (C.app _) bQ) rfl rfl
 rw[h6 e];exact put1 (g.sel aO C (aA.resolve_left e)) rfl rfl
end
section
variable{ins:List Int}{vs:List Vl}{i:Nat}{v:Vl}
theorem KG(g:GVal ins vs){p q}(az:Ln vs v.a v.len)(hb:Ln vs v.b v.len)(aQ:p=-1\/Ln vs p v.len)(aA:q=-1\/Ln vs q v.len):ym ins vs v.len (zB v p q vs.length):=by
 have n:(4:Int)=2\/(4:Int)=3\/(4:Int)=4\/(4:Int)=5\/(4:Int)=7:=xab;unfold zB;by_cases c:p=-1
 ·rw[h7 c];by_cases d:q=-1
  ·rw[h7 d];exact Ec g
  rw[h6 d];exact(put1 (g.two n az (aA.resolve_left d)) rfl rfl).o
 have C:=aQ.resolve_left c;rw[h6 c];have b5:=g.two n C hb;by_cases d:q=-1
 ·rw[h7 d];exact(put1 b5 rfl rfl).o
 rw[h6 d];have u:=aA.resolve_left d;have a0:=b5.two n (az.app _) (u.app _);exact(put3 (a0.two (.inl rfl) ((ij _ _ rfl rfl).app _) (ij _ _ xac rfl)) rfl rfl).o
theorem cE.qcp(h:Zp:=by
 unfold zC;by_cases c:p=-1
 ·rw[h7 c];by_cases d:q=-1
  ·rw[h7 d];exact Ec g
  rw[h6 d];have b5:=g.two n hi (aA.resolve_left d);have a0:=b5.two I (ij _ _ rfl rfl) (hb.app _);exact(put3 (a0.one (.inl rfl) (ij _ _ xac rfl)) rfl rfl).o
 have C:=aQ.resolve_left c;rw[h6 c];have b5:=g.two I C hb;by_cases d:q=-1
 ·rw[h7 d];exact(put1 b5 rfl rfl).o
 rw[h6 d];have a0:=b5.two n (hi.app _) ((aA.resolve_left d).app _);have b9:=a0.two (p:=(vs.length+1:Nat)) I (ij _ _ xac rfl) ((hb.app _).app _);exact(Rc (b9.two bf (((ij _ _ rfl rfl).app _).app _) (ij _ _ xac rfl)) rfl rfl).o):Zp:=h
open cE in
theorem KH(g:GVal ins vs){p q i}(hi:Ln vs i v.len)(hb:Ln vs v.b v.len)(aQ:p=-1\/Ln vs p v.len)(aA:q=-1\/Ln vs q v.len):ym ins vs v.len (zC i v p q vs.length):=by
 exact qco
theorem CG(hi:i<vs.length)(e:vs.getD i h9=v):Ln vs (i:Int) v.len:=⟨by omega,by omega,by grind⟩
theorem Oj(g:GVal ins vs)(hi:i<vs.length)(e:vs.getD i h9=v)(t:Nat->Int)(ht:∀q,q<cnt v.op->t q=-1\/Ln vs (t q) (jl vs (fld v q)))(ag:∀q,cnt v.op<=q->t q=-1):ym ins vs v.len (mvM (i:Int) v (t 0) (t 1) (t 2) vs.length):=by
 have ok:=g.1 i hi;have ai:1<=v.len/\v.len<=1000:=by rw[<-e];exact gi ok
 have aw:=CG hi e;unfold mvM;by_cases c0:t 0=-1/\t 1=-1/\t 2=-1
 ·rw[h7 c0];exact Ec g
 rw[h6 c0]
 have key2:v.op=2\/v.op=3\/v.op=4\/v.op=5\/v.op=7->Ln vs _ _/\Ln vs _ _/\(t 0=-1\/Ln vs _ _)/\(t 1=-1\/Ln vs _ _):=λho=>by
  obtain⟨al,az,hb⟩:=G1 ok hi e ho
  have bN:=pY ok hi e (q:=0) xaa
  have f1:=pY ok hi e (q:=1) xaa
  have bl:=ht 0 xaa
  have aS:=ht 1 xaa
  rw[show fld v 0=v.a from rfl,az]at bN bl
  rw[show fld v 1=v.b from rfl,hb]at f1 aS
  exact⟨bN,f1,bl,aS⟩
 have key1:cnt v.op=1->Ln _ _ (jl _ v.a):=λal=>by
  have aS:=ag 1 xaa
  have a9:=ag 2 xaa
  exact(ht 0 xaa).resolve_left (λc=>c0 ⟨c,aS,a9⟩)
 by_cases h2:v.op=2
 ·grind[KE]
 rw[h6 h2];by_cases h3:v.op=3
 ·grind[KF]
 rw[h6 h3];by_cases h4:v.op=4
 ·grind[KG]
 rw[h6 h4];by_cases bK:v.op=5
 ·grind[KH]
 rw[h6 bK];by_cases bZ:v.op=7
 ·rw[h7 bZ];obtain⟨bj,aj,an,av⟩:=key2 xaa;have b5:=g.two (.inr (.inl rfl)) bj aj;have h:=G4 b5 (ij _ _ rfl rfl) (an.imp id (λh=>h.app _)) (av.imp id (λh=>h.app _));grind[Put,Put.o]
 rw[h6 bZ];by_cases ar:v.op=8
 ·rw[h7 ar];obtain⟨al,az,hb,l⟩:=G2 ok e ar;have bN:=pY ok hi e (q:=0) xaa;have aS:=ht 1 xaa;have a9:=ht 2 xaa;rw[show fld v 0=v.a from rfl,az]at bN;rw[show fld v 1=v.b from rfl,hb]at aS;rw[show fld v 2=v.c from rfl,l]at a9;by_cases c:t 1=-1/\t 2=-1
  ·rw[h7 c];exact Ec g
  rw[h6 c];exact(G4 g bN aS a9).o
 rw[h6 ar];by_cases aq:v.op=13
 ·rw[h7 aq];obtain⟨al,az,l⟩:=yn ok e (.inr aq);have k:=key1 al;rw[az]at k;exact(put1 (g.two (.inr (.inr (.inl rfl))) k aw) rfl rfl).o
 rw[h6 aq];rcases G3 ok e with ak|F
 ·grind[cnt]
 by_cases b3:v.op=6
 ·obtain⟨al,az,l⟩:=yn ok e (.inl b3);have k:=key1 al;rw[az]at k;rw[b3,l];exact(put1 (g.one (.inl rfl) k) rfl rfl).o
 by_cases ae:v.op=9
 ·obtain⟨al,az,l⟩:=Qg ok e ae;have k:=key1 al;rw[ae,l,az];exact(put1 (g.p9 k) rfl rfl).o
 by_cases H:v.op=10
 ·obtain⟨al,az,l⟩:=M0 ok e H;have k:=key1 al;rw[az]at k;rw[H,l];exact(put1 (g.p10 ai k) rfl rfl).o
 by_cases J:v.op=11
 ·obtain⟨al,az,l⟩:=M3 ok e J;have k:=key1 al;rw[J,az];exact(put1 (g.p11 k l) rfl rfl).o
 by_cases T:v.op=12
 ·obtain⟨al,az,l⟩:=M4 ok e T;have k:=key1 al;rw[az]at k;rw[T];exact(put1 (g.p12 ai k l) rfl rfl).o
 grind[cnt]
theorem cF.qcp(h:Zp:=by
 have key2:v.op=2\/v.op=3\/v.op=4\/v.op=5\/v.op=7->Ln vs _ _/\Ln vs _ _/\jl _ (fld v k)=v.len/\k<2:=λho=>by
  obtain⟨al,az,bc⟩:=G1 ok hi e ho
  have bN:=pY ok hi e (q:=0) xaa
  have f1:=pY ok hi e (q:=1) xaa
  rw[show fld v 0=v.a from rfl,az]at bN
  rw[show fld v 1=v.b from rfl,bc]at f1
  refine⟨bN,f1,?_,by omega⟩
  rcases (by omega:k=0\/k=1) with rfl|rfl
  ·exact az
  ·exact bc
 have key1:cnt v.op=1->fld v k=v.a:=λal=>by
  obtain rfl:k=0:=xaa
  rfl
 unfold nD;by_cases h2:v.op=2
 ·grind[put0]
 rw[h6 h2];by_cases h3:v.op=3
 ·rw[h7 h3,(key2 xaa).2.2.1];by_cases c:k=0
  ·rw[h7 c];exact put0 g aO
  rw[h6 c];exact put1 (g.one (.inl rfl) aO) rfl rfl
 rw[h6 h3];by_cases h4:v.op=4
 ·obtain⟨bj,aj,u,_⟩:=key2 xaa;rw[h7 h4,u];by_cases c:k=0
  ·rw[h7 c];exact put1 (g.two n aO aj) rfl rfl
  rw[h6 c];exact put1 (g.two n aO bj) rfl rfl
 rw[h6 h4];by_cases bK:v.op=5
 ·obtain⟨bj,aj,u,_⟩:=key2 xaa;rw[h7 bK,u];by_cases c:k=0
  ·rw[h7 c];exact put1 (g.two I aO aj) rfl rfl
  rw[h6 c];have b5:=g.two n aO aw;have a0:=b5.two I (ij _ _ rfl rfl) (aj.app _);exact put3 (a0.one (.inl rfl) (ij _ _ xac rfl)) rfl rfl
 rw[h6 bK];by_cases b3:v.op=6
 ·obtain⟨al,az,_⟩:=yn ok e (.inl b3);rw[h7 b3,key1 al,az];exact put1 (g.one (.inl rfl) aO) rfl rfl
 rw[h6 b3];by_cases aq:v.op=13
 ·obtain⟨al,az,_⟩:=yn ok e (.inr aq);rw[h7 aq,key1 al,az];exact put1 (g.two n aO aw) rfl rfl
 rw[h6 aq];by_cases ar:v.op=8
 ·obtain⟨al,az,y,l⟩:=G2 ok e ar;have bN:=pY ok hi e (q:=0) xaa;rw[show fld v 0=v.a from rfl,az]at bN;have ad:k≠0:=λc=>by subst c;simp[pG,ar]at hb
  have u:jl vs (fld v k)=v.len:=by
   rcases (by omega:k=1\/k=2) with rfl|rfl
   ·exact y
   exact l
  rw[h7 ar,u];have z:=g.z ai;have bQ:Ln (vs++[eJ 1 v.len 0 0 0]) _ v.len:=ij _ _ rfl rfl;by_cases c:k=1
  ·rw[h7 c];exact put2 (z.sel (bN.app _) (aO.app _) bQ) rfl rfl
  rw[h6 c];exact put2 (z.sel (bN.app _) bQ (aO.app _)) rfl rfl
 rw[h6 ar];by_cases bZ:v.op=7
 ·obtain⟨bj,aj,u,_⟩:=key2 xaa;rw[h7 bZ,u];have b5:=g.two bf bj aj;have bQ:Ln (vs++[eJ 3 v.len v.a v.b 0]) _ v.len:=ij _ _ rfl rfl;have a0:=b5.z ai;have b6:Ln ((vs++[eJ 3 v.len v.a v.b 0])++[eJ 1 v.len 0 0 0]) ((vs.length+1:Nat):Int) v.len:=ij _ _ xac rfl;by_cases c:k=0
  ·rw[h7 c];exact put3 (a0.sel (bQ.app _) ((aO.app _).app _) b6) rfl rfl
  rw[h6 c];exact put3 (a0.sel (bQ.app _) b6 ((aO.app _).app _)) rfl rfl
 rw[h6 bZ];have m:cnt v.op=1->1<=jl vs _/\jl _ v.a<=1000:=λal=>g.len (pY ok hi e (q:=0) xaa);by_cases ae:v.op=9
 ·obtain⟨al,az,_⟩:=Qg ok e ae;rw[h7 ae,key1 al];rw[az]at aO;exact put1 (g.p10 (m al) aO) rfl rfl
 rw[h6 ae];by_cases H:v.op=10
 ·obtain⟨al,az,_⟩:=M0 ok e H;rw[h7 H,key1 al,az];exact put1 (g.p9 aO) rfl rfl
 rw[h6 H];by_cases J:v.op=11
 ·obtain⟨al,az,l⟩:=M3 ok e J;rw[h7 J,key1 al];rw[az]at aO;exact put1 (g.p12 (m al) aO l) rfl rfl
 rw[h6 J];rcases G3 ok e with ak|F
 ·grind[cnt]
 by_cases T:v.op=12
 ·obtain⟨al,az,l⟩:=M4 ok e T;rw[key1 al,az];exact put1 (g.p11 aO l) rfl rfl
 grind[cnt]):Zp:=h
open cF in
theorem KJ(g:GVal ins vs)(hi:i<vs.length)(e:vs.getD i h9=v){k}(O:k<cnt v.op)(hb:pG v k=true){d}(aO:Ln vs d v.len):Put ins vs (jl vs (fld v k)) (nD (i:Int) v (jl vs v.a) k d vs.length):=by
 have ok:=g.1 i hi;have ai:1<=v.len/\v.len<=1000:=by rw[<-e];exact gi ok
 have aw:=CG hi e;exact qco
end
structure GIv(ins:List Int)(vs0:List Vl)(st:List Vl×List Int):Prop where
 g:GVal ins st.1
 p:Pre vs0 st.1
 l:st.2.length=vs0.length
 m:∀q,q<vs0.length->st.2.getD q 0=-1\/Ln st.1 (st.2.getD q 0) (jl vs0 (q:Int))
theorem jf(vs)(q:Nat):jl vs (q:Int)=(vs.getD q h9).len:=by unfold jl;grind
theorem uF(p:Pre vs0 us)(ak:0<=j)(F:j<(vs0.length:Int)):jl us j=jl vs0 j:=by
 unfold jl;rw[(p.at_ (j:=j.toNat) xaa).1]
theorem Ed(l:List Int)(i x)(h:i<l.length):(l.set i x).getD i 0=x:=by
 simp_all
theorem Ee(l:List Int)(i q x)(h:i≠q):(l.set i x).getD q 0=l.getD q 0:=by
 simp_all
theorem GIv.put{st}(h:GIv ins vs0 st){i}(hi:i<vs0.length){M}(bJ:ym ins st.1 (jl vs0 (i:Int)) M):GIv ins vs0 (st.1++M.1,st.2.set i M.2):=by
 refine⟨bJ.1,h.p.app,by rw[List.length_set];exact h.l,λq aA=>?_⟩;by_cases c:i=q
 ·subst c;simp only;rw[Ed _ _ _ (i1 h.l hi)];exact bJ.2
 simp only;rw[Ee _ _ _ _ c];exact(h.m q aA).imp id (λx=>x.app _)
theorem wk(g:GVal ins (vs0++us))(ap:x<vs0.length){t}(ht:Ln (vs0++us) t (jl vs0 (x:Int))):GIv ins vs0 (vs0++us,(List.replicate vs0.length (-1)).set x t):=by
 refine⟨g,⟨_,rfl⟩,by grind,λq aA=>?_⟩;grind
theorem zZ{ins vs0}(g:GVal ins vs0){x t:Nat}(ht:Ln vs0 (t:Int) (jl vs0 (x:Int))):∀k,x+k<vs0.length->GIv ins vs0 (jst vs0 x t k)
 |0,O=>by
  have h:=wk (us:=[]) (ins:=ins) (vs0:=vs0) (x:=x) (t:=(t:Int)) (by simpa using g) xaa (by simpa using ht)
  rw[List.append_nil]at h
  exact h
 |k+1,O=>by
  have G:=zZ g ht k xaa
  have hi:x+1+k<vs0.length:=xaa
  have e:=(G.p.at_ hi).1
  have bJ:=Oj G.g (G.p.at_ hi).2 e (ovs (vs0.getD (x+1+k) h9) (jst vs0 x t k).2 (cnt (vs0.getD (x+1+k) h9).op)) (λq aA=>?_) (λq aA=>by unfold ovs;omega)
  ·rw[<-jf]at bJ
   exact G.put hi bJ
  ·have ho:=mE (g.1 _ hi) q aA
   unfold ovs
   rw[h7 aA,uF G.p ho.1 xaa]
   have ao:=G.m (fld (vs0.getD (x+1+k) h9) q).toNat xaa
   grind
theorem mT(g:GVal ins vs){t:Nat}(aw:s<vs.length)(ap:x<vs.length)(ht:Ln vs (t:Int) (jl vs (x:Int))):GVal ins (jR vs s x t).1/\Ln (jR vs s x t).1 (jR vs s x t).2 (jl vs (s:Int))/\Pre vs (jR vs s x t).1:=by
 have h:=zZ g ht (s-x) xaa;have ai:=gi (g.1 s aw);unfold jR;by_cases c:(jst vs x t (s-x)).2.getD s 0=-1
 ·rw[h7 c];exact⟨h.g.z ai,ij _ _ rfl (jf _ _).symm,h.p.app⟩
 rw[h6 c];exact⟨h.g,(h.m s aw).resolve_left c,h.p⟩
theorem KK(g:GVal ins vs0){act i}(hi:i<vs0.length)(O:k<cnt (vs0.getD i h9).op){st}(h:GIv ins vs0 st)(aO:st.2.getD i 0≠-1):GIv ins vs0 (gkM vs0 act i k st)/\(gkM vs0 act i k st).2.getD i 0=st.2.getD i 0:=by
 unfold gkM;by_cases c:act.getD (fld (vs0.getD i h9) k).toNat false=true/\pG (vs0.getD i h9) k=true
 ·rw[h7 c];have ho:=mE (g.1 i hi) k O;have ak:=mE (g.1 i hi) 0 xaa;have e:=(h.p.at_ hi).1;have l:=(h.m i hi).resolve_left aO;rw[jf]at l;have hP:=KJ h.g (h.p.at_ hi).2 e O c.2 l;rw[uF h.p ho.1 xaa,show jl st.1 _=laM _ i from uF h.p ak.1 (by have:(vs0.getD i _).a<i:=ak.2;omega)]at hP;generalize nD _ _ _ k _ _=M at hP;generalize fv:fld _ k=aw at ho hP;obtain⟨o,rfl⟩:=Int.eq_ofNat_of_zero_le ho.1;have gf:o<i:=xaa;rw[Int.toNat_natCast];unfold mF;simp only;by_cases d:st.2.getD o 0=-1
  ·rw[h7 d];refine⟨h.put xaa hP.o,?_⟩;grind
  rw[h6 d];have di:=((h.m o xaa).resolve_left d).app M.1;have a0:=hP.1.two (.inl rfl) di hP.2
  have h2:ym ins st.1 (jl vs0 o) (M.1++[eJ 2 (jl vs0 o) (st.2.getD o 0) M.2 0],((st.1++M.1).length:Int)):=by
   refine⟨by grind,.inr ?_⟩;simp only;rw[<-List.append_assoc];exact ij _ _ rfl rfl
  have h3:=h.put xaa h2;grind[jf]
 grind
theorem wm{ins vs0}(g:GVal ins vs0){act i}(hi:i<vs0.length){st}(h:GIv ins vs0 st)(aO:st.2.getD i 0≠-1):∀k,k<=cnt (vs0.getD i h9).op->GIv ins vs0 (jS vs0 act i st k)/\(jS vs0 act i st k).2.getD i 0=st.2.getD i 0
 |0,_=>⟨h,rfl⟩
 |k+1,O=>by
  obtain⟨F,h2⟩:=wm g hi h aO k xaa
  obtain⟨h3,h4⟩:=KK g (act:=act) hi O F (i1 h2 aO)
  exact⟨h3,h4.trans h2⟩
theorem Aa{ins vs0}(g:GVal ins vs0){act s}(aw:s<vs0.length)(F:(vs0.getD s h9).len=1):∀j,GIv ins vs0 (gdn vs0 act s j)
 |0=>wk (g.p1 ⟨by decide,by decide⟩ xab) aw (ij _ _ rfl (by rw[jf,F]))
 |j+1=>by
  have G:=Aa (act:=act) g aw F j
  grind[giM,gdn,wm]
theorem Ab(g:GVal ins vs)(aw:s<vs.length)(ap:x<vs.length)(F:(vs.getD s h9).len=1):GVal ins (grM vs s x).1/\Ln (grM vs s x).1 (grM vs s x).2 (jl vs (x:Int))/\Pre vs (grM vs s x).1:=by
 have ai:=gi (g.1 x ap);unfold grM;by_cases c:(jo vs x (s-x)).getD s false=true
 ·rw[h7 c];unfold Gy;rw[ux _ _ _ _ _ yad];have h:=Aa (act:=jo vs x (s-x)) g aw F (s-x);unfold NR;by_cases d:(gdn vs (jo vs x (s-x)) s (s-x)).2.getD x 0=-1
  ·rw[h7 d];exact⟨h.g.z ai,ij _ _ rfl (jf _ _).symm,h.p.app⟩
  rw[h6 d];exact⟨h.g,(h.m x ap).resolve_left d,h.p⟩
 rw[h6 c];exact⟨g.z ai,ij _ _ rfl (jf _ _).symm,⟨_,rfl⟩⟩
theorem Gd.v(g:Gd st):GVal st.ins st.vs:=⟨λi hi=>List.all_eq_true.1 g.ok i (List.mem_range.2 hi),g.k⟩
theorem Gd.with(g:Gd st)(h:GVal st.ins vs)(ai:kz vs=false):Gd {st with vs:=vs}:=by
 obtain⟨F,h2⟩:=GX ai;exact⟨F,h2,List.all_eq_true.2 (λi hi=>h.1 i (List.mem_range.1 hi)),h.2,g.i,g.o,g.m⟩
structure Gw(st st':LSt):Prop where
 g:Gd st'
 n:st.vs.length<=st'.vs.length
 l:∀i,i<st.vs.length->eW st' i=eW st i
 i:st'.ins=st.ins
 o:st'.outs=st.outs
 m:st'.names=st.names
theorem Gw.refl(g:Gd st):Gw st st:=⟨g,yad,λ_ _=>rfl,rfl,rfl,rfl⟩
theorem Gw.trans{a c}(h:Gw a b)(k:Gw b c):Gw a c:=
 ⟨k.g,yao h.n k.n,λi hi=>(k.l i (yak hi h.n)).trans (h.l i hi),k.i.trans h.i,k.o.trans h.o,k.m.trans h.m⟩
def RsG(st:LSt)(r:Rs (LSt×Nat)):Prop:=∀st' v,r=.ok (st',v)->Gw st st'/\v<st'.vs.length
theorem gN{f}:RsG st (.error f):=λ_ _ h=>by cases h
theorem G5{v}(h:Gw st N)(aN:v<N.vs.length):RsG st (.ok (N,v)):=λ_ _ e=>by grind
theorem RsG.back{a}(h:Gw a b)(k:RsG b r):RsG a r:=λs v e=>⟨h.trans (k s v e).1,(k s v e).2⟩
theorem G6(p:Pre st.vs vs){i}(hi:i<st.vs.length):eW {st with vs:=vs} i=eW st i:=by
 unfold eW;simp only;rw[(p.at_ hi).1]
theorem G7(g:Gd st)(h:GVal st.ins vs)(ai:kz vs=false)(p:Pre st.vs vs):Gw st {st with vs:=vs}:=
 ⟨g.with h ai,by obtain⟨r,rfl⟩:=p;simp,λi hi=>G6 p hi,rfl,rfl,rfl⟩
theorem oO(g:Gd st){v}(h:GVal st.ins (st.vs++[v])){p j}(e:fI st v p=.ok (N,j)):Gw st N/\j<N.vs.length/\eW N j=v.len:=by
 unfold fI at e;cases ai:kz (st.vs++[v]) with
 |true=>grind
 |false=>
  rw[ai,h6 xac]at e;cases e;have ag:=ij st.vs v rfl rfl;exact⟨G7 g h ai ⟨_,rfl⟩,by simp,by have:=ag.2.2;rw[Int.toNat_natCast]at this;exact this⟩
theorem jW(g:Gd st){v}(h:GVal st.ins (st.vs++[v]))(p):RsG st (fI st v p):=λ_ _ e=>⟨(oO g h e).1,(oO g h e).2.1⟩
theorem pZ(g:Gd st){m n}(h:GVal st.ins m.1/\Ln m.1 m.2 n/\Pre st.vs m.1)(p):RsG st (iC st m p):=by
 unfold iC;cases ai:kz m.1 with
 |true=>rw[h7 rfl];exact gN
 |false=>
  rw[h6 xac];refine G5 (G7 g h.1 ai h.2.2) ?_;have:=h.2.1.1;have:=h.2.1.2.1;grind
theorem jJ{i}(h:i<st.vs.length):Ln st.vs (i:Int) (eW st i):=⟨by omega,by omega,i4 Int.toNat_natCast⟩
theorem rL(n p)(ag:1<=n/\n<=1000):∀(xs:List Nat) (st:LSt),Gd st->(∀i∈xs,i<st.vs.length/\(eW st i=n\/eW st i=1))->∀N bw,iu n p st xs=.ok (N,bw)->Gw st N/\bw.length=xs.length/\∀j∈bw,j<N.vs.length/\eW N j=n
 |[],st,g,_,N,bw,e=>by
  cases e<;>grind[Gw.refl]
 |i::r,st,g,ap,N,bw,e=>by
  have hi:=ap i (List.mem_cons_self ..)
  by_cases c:eW st i<n
  ·have F:eW st i=1:=xaa
   cases aQ:fI st (eJ 10 n (i:Int) 0 0) p with
   |error f=>rw[pP c aQ]at e;cases e
   |ok x=>
    obtain⟨ar,j⟩:=x
    obtain⟨aH,am,aU⟩:=oO g (g.v.p10 ag (by rw[<-F];exact jJ hi.1)) aQ
    rw[pO c aQ]at e
    cases ba:iu n p ar r with
    |error f=>rw[ba]at e;cases e
    |ok y=>
     obtain⟨aW,a9⟩:=y
     rw[ba]at e
     cases e
     obtain⟨an,av,aZ⟩:=rL n p ag r _ aH.g (λq aA=>by
      have h:=ap q (List.mem_cons_of_mem _ aA)
      rw[aH.l q h.1]
      exact⟨yak h.1 aH.n,h.2⟩) _ _ ba
     refine⟨aH.trans an,by simp[av],λq aA=>?_⟩
     rcases List.mem_cons.1 aA with rfl|aA
     ·exact⟨yak am an.n,(an.l q am).trans aU⟩
     ·exact aZ q aA
  ·have F:eW st i=n:=xaa
   rw[oM c]at e
   cases ba:iu n p st r with
   |error f=>rw[ba]at e;cases e
   |ok y=>
    obtain⟨aW,a9⟩:=y
    rw[ba]at e
    cases e
    obtain⟨an,av,aZ⟩:=rL n p ag r _ g (λq aA=>ap q (List.mem_cons_of_mem _ aA)) _ _ ba
    refine⟨an,by simp[av],λq aA=>?_⟩
    rcases List.mem_cons.1 aA with rfl|aA
    ·exact⟨yak hi.1 an.n,(an.l q hi.1).trans F⟩
    ·exact aZ q aA
theorem lF(g:Gd st)(xs p)(ap:∀i∈xs,i<st.vs.length)(e:jT st xs p=.ok (N,bw)):Gw st N/\bw.length=xs.length/\∃n,∀j∈bw,j<N.vs.length/\eW N j=n:=by
 unfold jT at e;by_cases c:xs.all (λi=>eW st i==pU st xs||eW st i==1)=true
 ·rw[h7 c]at e;have hb:=yk g _ ap _ yad;rw[List.take_length]at hb;obtain⟨F,h2,h3⟩:=rL _ p hb _ _ g (λi hi=>⟨ap i hi,by simp_all⟩) _ _ e;exact⟨F,h2,_,h3⟩
 grind
theorem mo(h:k<bw.length):bw.getD k 0∈bw:=by
 simp_all
theorem G8(s):qL s=2\/qL s=3\/qL s=4\/qL s=5\/qL s=7:=by
 grind[qL]
theorem bK.qby(h:Zp:=by
 have bQ:=jJ bN.1;have b6:=jJ f1.1;rw[f1.2,<-bN.2]at b6;exact RsG.back F (jW F.g (F.g.v.two (G8 _) bQ b6) _)):Zp:=h
open bK in
theorem KL(g:Gd st)(o){b}(az:a<st.vs.length)(hb:b<st.vs.length):RsG st (qM st o a b):=by
 unfold qM;cases ba:jT st [a,b] o.pos with
 |error f=>exact gN
 |ok x=>
  exact qbx
theorem bL.qby(h:Zp:=by
 have bQ:=jJ bN.1;have b6:=jJ f1.1;rw[f1.2,<-bN.2]at b6;simp only;by_cases c:k.sym=Bf
 ·rw[h7 c];exact RsG.back F (jW F.g (F.g.v.two (.inr (.inr (.inr (.inr rfl)))) bQ b6) _)
 rw[h6 c];cases aQ:fI aW (eJ 4 (eW aW (f.getD 0 0)) (f.getD 0 0:Nat) (f.getD 1 0:Nat) 0) k.pos with
 |error f=>exact gN
 |ok x=>
  obtain⟨bJ,j⟩:=x;obtain⟨aH,am,aU⟩:=oO F.g (F.g.v.two (.inr (.inr (.inl rfl))) bQ b6) aQ;exact RsG.back (F.trans aH) (jW aH.g (aH.g.v.p9 (jJ am)) _)):Zp:=h
open bL in
theorem Ha(g:Gd st)(k){b}(az:a<st.vs.length)(hb:b<st.vs.length):RsG st (qN st k a b):=by
 unfold qN;cases ba:jT st [a,b] k.pos with
 |error f=>exact gN
 |ok x=>
  exact qbx
theorem bM.qby(h:Zp:=by
 have f2:=h3 _ (mo (k:=2) (by rw[h2];simp));have bQ:=jJ bN.1;have b6:=jJ f1.1;have cf:=jJ f2.1;rw[f1.2,<-bN.2]at b6;rw[f2.2,<-bN.2]at cf;exact RsG.back F (jW F.g (F.g.v.sel bQ b6 cf) _)):Zp:=h
open bM in
theorem KM(g:Gd st)(k){b c}(az:a<st.vs.length)(hb:b<st.vs.length)(al:c<st.vs.length):RsG st (ye st k a b c):=by
 unfold ye;cases ba:jT st [a,b,c] k.pos with
 |error f=>exact gN
 |ok x=>
  exact qbx
theorem CH{l}(h:Dgs l):0<=ii l:=by
 have:=pW h yad;grind
theorem BF(g:Gd st)(k)(az:a<st.vs.length)(n)(bx:Dgs n.text):RsG st (mi st k a n):=by
 have ak:=CH bx;have S:=jJ az;unfold mi;by_cases c:k.sym=qy
 ·rw[h7 c];by_cases d:eW st a<=ii n.text
  ·rw[h7 d];exact gN
  rw[h6 d];exact jW g (g.v.p11 S ⟨ak,by omega⟩) _
 rw[h6 c];by_cases d:eW st a≠1
 ·rw[h7 d];exact gN
 rw[h6 d];by_cases e:ii n.text<1\/1000<ii n.text
 ·rw[h7 e];exact gN
 rw[h6 e];rw[Decidable.not_not.1 d]at S;exact jW g (g.v.p10 ⟨by omega,by omega⟩ S) _
theorem BG(g:Gd st)(k)(az:a<st.vs.length)(i n)(bx:Dgs i.text):RsG st (mj st k a i n):=by
 have ak:=CH bx;have S:=jJ az;unfold mj;by_cases d:eW st a≠1
 ·rw[h7 d];exact gN
 rw[h6 d];by_cases e:ii n.text<1\/1000<ii n.text
 ·rw[h7 e];exact gN
 rw[h6 e];by_cases q:ii n.text<=ii i.text
 ·rw[h7 q];exact gN
 rw[h6 q];rw[Decidable.not_not.1 d]at S;exact jW g (g.v.p12 ⟨by omega,by omega⟩ S ⟨ak,by omega⟩) _
theorem Hb(g:Gd st)(k)(az:a<st.vs.length)(ap:x<st.vs.length):RsG st (pN st k a x):=by
 unfold pN;by_cases d:eW st a≠1
 ·rw[h7 d];exact gN
 rw[h6 d];exact pZ g (Ab g.v az ap (Decidable.not_not.1 d)) _
theorem KN(g:Gd st)(k){d}(az:a<st.vs.length)(ap:x<st.vs.length)(aO:d<st.vs.length):RsG st (pV st k a x d):=by
 have bE:=g.lenB ap;have c6:=jJ aO;unfold pV;by_cases c:eW st d=1/\1<eW st x
 ·rw[h7 c];rw[c.1]at c6;cases aQ:fI st (eJ 10 (eW st x) (d:Int) 0 0) k.pos with
  |error f=>exact gN
  |ok y=>
   obtain⟨aW,bi⟩:=y;obtain⟨aH,am,aU⟩:=oO g (g.v.p10 bE c6) aQ;refine RsG.back aH (pZ aH.g (mT aH.g.v (yak az aH.n) (yak ap aH.n) ?_) _);have cf:=jJ am;rw[aU]at cf;rw[jf];have:=aH.l x ap;rw[show(aW.vs.getD x _).len=eW _ x from rfl,this];exact cf
 rw[h6 c];by_cases e:eW st d≠eW st x
 ·rw[h7 e];exact gN
 rw[h6 e];refine pZ g (mT g.v az ap ?_) _;grind[jf,eW]
inductive EOK:Ex->Prop
 |num (t:Tok):EOK (.num t)
 |name (t:Tok):EOK (.name t)
 |neg (o:Tok) {e:Ex}:EOK e->EOK (.neg o e)
 |bin (o:Tok) {a b:Ex}:EOK a->EOK b->EOK (.bin o a b)
 |call (t:Tok) {es:List Ex}:(∀e∈es,EOK e)->EOK (.call t es)
 |key1 (k:Tok) {e:Ex}:EOK e->EOK (.key1 k e)
 |key2 (k:Tok) {a b:Ex}:EOK a->EOK b->EOK (.key2 k a b)
 |key3 (k:Tok) {a b c:Ex}:EOK a->EOK b->EOK c->EOK (.key3 k a b c)
 |keyN (k:Tok) {e:Ex}{n:Tok}:EOK e->Dgs n.text->EOK (.keyN k e n)
 |put (k:Tok) {e:Ex}{i n:Tok}:EOK e->Dgs i.text->Dgs n.text->EOK (.put k e i n)
 |grad (k:Tok) {e:Ex} (x:Tok):EOK e->EOK (.grad k e x)
 |jvp (k:Tok) {e d:Ex} (x:Tok):EOK e->EOK d->EOK (.jvp k e x d)
theorem jm{n es ts}(h:Pr n es ts):(∀t∈ts,t.sym=ik->Dgs t.text)->∀e∈es,EOK e:=by
 have one:∀{P:Ex->Prop}{x:Ex},P x->∀e∈[x],P e:=λh e Y=>by grind
 have l:∀{P:Ex->Prop}{x:Ex},(∀e∈[x],P e)->P x:=λh=>h _ (List.mem_singleton.2 rfl);induction h with
 |up01 _ G=>exact G
 |up12 _ G=>exact G
 |add _ _ _ g d=>exact λad=>one (.bin _ (l (g λt ht=>ad t (by simp[ht]))) (l (d λt ht=>ad t (by simp[ht]))))
 |mul _ _ _ g d=>exact λad=>one (.bin _ (l (g λt ht=>ad t (by simp[ht]))) (l (d λt ht=>ad t (by simp[ht]))))
 |neg _ _ G=>exact λad=>one (.neg _ (l (G λt ht=>ad t (by simp[ht]))))
 |num _=>exact λ_=>one (.num _)
 |name _=>exact λ_=>one (.name _)
 |par _ _ _ G=>simp_all
 |call0 _ _ _=>exact λ_=>one (.call _ (λe Y=>by cases Y))
 |call _ _ _ _ G=>exact λad=>one (.call _ (G λt ht=>ad t (by simp[ht])))
 |arg1 _ G=>exact G
 |argM _ _ _ g d=>grind
 |key1 _ _ _ _ G=>exact λad=>one (.key1 _ (l (G λt ht=>ad t (by simp[ht]))))
 |key2 _ _ _ _ _ _ g d=>exact λad=>one (.key2 _ (l (g λt ht=>ad t (by simp[ht]))) (l (d λt ht=>ad t (by simp[ht]))))
 |key3 _ _ _ _ _ _ _ _ g d m=>exact λad=>one (.key3 _ (l (g λt ht=>ad t (by simp[ht]))) (l (d λt ht=>ad t (by simp[ht]))) (l (m λt ht=>ad t (by simp[ht]))))
 |keyN _ _ _ _ ag _ G=>exact λad=>one (.keyN _ (l (G λt ht=>ad t (by simp[ht]))) (ad _ xac ag))
 |put _ _ _ _ hi _ ag _ G=>exact λad=>one (.put _ (l (G λt ht=>ad t (by simp[ht]))) (ad _ xac hi) (ad _ xac ag))
 |grad _ _ _ _ _ _ G=>exact λad=>one (.grad _ _ (l (G λt ht=>ad t (by simp[ht]))))
 |jvp _ _ _ _ _ _ _ _ g d=>exact λad=>one (.jvp _ _ (l (g λt ht=>ad t (by simp[ht]))) (l (d λt ht=>ad t (by simp[ht]))))
def BOK(n:Nat):Bdg->Prop
 |.val _ v=>v<n
 |.fn _ _ e=>EOK e
def NmOK(st:LSt):Prop:=∀b∈st.names,BOK st.vs.length b
theorem BOK.le{n m}(h:n<=m){b}(k:BOK n b):BOK m b:=by
 cases b with
 |val _ v=>exact yak k h
 |fn _ _ _=>exact k
theorem NmOK.gw{a}(h:NmOK a)(w:Gw a b):NmOK b:=λx ap=>(h x (i2 w.m ap)).le w.n
def LcOK(loc:Loc)(n:Nat):Prop:=∀b∈loc,b.2<n
theorem LcOK.le{u n m}(k:LcOK u n)(h:n<=m):LcOK u m:=λb hb=>yak (k b hb) h
theorem oP(ao:NmOK st){u}(ai:LcOK u st.vs.length){t v}(e:fi st u t=.ok v):v<st.vs.length:=by
 unfold fi BE at e;cases ba:u.find? (λb=>b.1==t.text) with
 |some b=>
  rw[ba]at e;simp only[Option.map_some]at e;cases e;exact ai b (List.mem_of_find?_eq_some ba)
 |none=>
  rw[ba]at e;simp only[Option.map_none]at e;unfold iN at e;cases hb:st.names.find? (λb=>b.nm==t.text) with
  |none=>grind
  |some b=>
   rw[hb]at e;have:=ao b (List.mem_of_find?_eq_some hb);cases b with
   |val _ v=>cases e;exact this
   |fn _ _ _=>cases e
theorem ib{r f}(F:∀q,r=some q->RsG st q)(h2:∀s a,Gw st s->a<s.vs.length->∀q,f s a=some q->RsG s q):∀q,ju r f=some q->RsG st q:=λq e=>by
 unfold ju at e
 cases r with
 |none=>cases e
 |some x=>
  cases x with
  |error x=>grind
  |ok x=>
   obtain⟨s,a⟩:=x
   obtain⟨w,az⟩:=F _ rfl s a rfl
   exact RsG.back w (h2 s a w az q e)
theorem wn{ba d}:∀(es:List Ex) (st:LSt),Gw d st->(∀e∈es,∀s,Gw d s->∀q,ba s e=some q->RsG s q)->∀aW xs,fQ ba st es=some (.ok (aW,xs))->Gw st aW/\xs.length=es.length/\∀x∈xs,x<aW.vs.length
 |[],st,C,_,aW,xs,e=>by
  cases e
  exact⟨Gw.refl C.g,rfl,λx ap=>by cases ap⟩
 |af::r,st,C,g,aW,xs,e=>by
  unfold fQ at e
  cases F:ba st af with
  |none=>grind
  |some q=>
   rw[F]at e
   cases q with
   |error f=>cases e
   |ok x=>
    obtain⟨ar,a⟩:=x
    obtain⟨w,az⟩:=g _ (List.mem_cons_self ..) _ C _ F _ a rfl
    simp only at e
    cases h2:fQ ba ar r with
    |none=>grind
    |some q=>
     rw[h2]at e
     cases q with
     |error f=>cases e
     |ok x=>
      obtain⟨bJ,ys⟩:=x
      simp only at e
      cases e
      obtain⟨an,av,aZ⟩:=wn r _ (C.trans w) (λe Y=>g e (List.mem_cons_of_mem _ Y)) _ _ h2
      refine⟨w.trans an,by simp[av],λx ap=>?_⟩
      rcases List.mem_cons.1 ap with rfl|ap
      ·exact yak az an.n
      grind
theorem hY{q}(h:RsG st r)(e:some r=some q):RsG st q:=by grind
theorem fX:∀(f:Nat) (st:LSt) (u:Loc) (e:Ex),Gd st->NmOK st->LcOK u st.vs.length->EOK e->∀r,eM f st u e=some r->RsG st r
 |0,_,_,_,_,_,_,_,r,h=>by cases h
 |f+1,st,u,e,g,ao,ai,Y,r,h=>by
  have G:∀{e:Ex},EOK e->∀{s:LSt},Gw _ s->∀q,eM f s _ e=some q->_:=λY s w q aA=>fX f s _ _ w.g (ao.gw w) (ai.le w.n) Y q aA
  cases Y with
  |num t=>
   rw[eM]at h
   exact hY (jW g (g.v.p1 ⟨by decide,by decide⟩ (kT _ _ _)) _) h
  |name t=>
   grind[eM,gN,G5,Gw.refl,oP]
  |neg o Y=>
   rw[eM]at h
   exact ib (G Y (Gw.refl g)) (λs a w az q aA=>hY (jW w.g (w.g.v.one (.inl rfl) (jJ az)) _) aA) r h
  |bin o az hb=>
   rw[eM]at h
   exact ib (G az (Gw.refl g)) (λs a w az=>ib (G hb w) (λaW b am hb q aA=>hY (KL am.g _ (yak az am.n) hb) aA)) r h
  |call t cA=>
   rename_i es
   rw[eM]at h
   cases ba:iN st.names t.text with
   |none=>rw[ba]at h;exact hY gN h
   |some b=>
    rw[ba]at h
    cases b with
    |val _ _=>exact hY gN h
    |fn aS ps ay=>
     simp only at h
     by_cases c:ps.length=es.length
     ·rw[h7 c]at h
      cases az:fQ (λs e=>eM f s u e) st es with
      |none=>grind
      |some q=>
       rw[az]at h
       cases q with
       |error q=>exact hY gN h
       |ok x=>
        obtain⟨ar,xs⟩:=x
        obtain⟨w,am,aU⟩:=wn _ _ (Gw.refl g) (λe Y s w q aA=>G (cA e Y) w q aA) _ _ az
        simp only at h
        by_cases d:500<=ar.calls
        ·rw[h7 d]at h;exact hY gN h
        ·rw[h6 d]at h
         have bA:Gw _ {ar with calls:=ar.calls+1}:=⟨⟨w.g.n,w.g.c,w.g.ok,w.g.k,w.g.i,w.g.o,w.g.m⟩,w.n,w.l,w.i,w.o,w.m⟩
         have hb:EOK _:=ao _ (List.mem_of_find?_eq_some ba)
         exact RsG.back bA (fX f _ _ _ bA.g (ao.gw bA) (λb hb=>aU _ (List.of_mem_zip (show(b.1,b.2)∈_ from hb)).2) hb r h)
     ·rw[h6 c]at h;exact hY gN h
  |key1 k Y=>
   rw[eM]at h
   refine ib (G Y (Gw.refl g)) (λs a w az q aA=>hY ?_ aA) r h
   by_cases c:k.sym=zi
   ·rw[h7 c];exact jW w.g (w.g.v.one (.inr rfl) (jJ az)) _
   ·rw[h6 c];exact jW w.g (w.g.v.p9 (jJ az)) _
  |key2 k az hb=>
   rw[eM]at h
   exact ib (G az (Gw.refl g)) (λs a w az=>ib (G hb w) (λaW b am hb q aA=>hY (Ha am.g _ (yak az am.n) hb) aA)) r h
  |key3 k az hb al=>
   rw[eM]at h
   exact ib (G az (Gw.refl g)) (λs a w az=>ib (G hb w) (λaW b am hb=>ib (G al (w.trans am)) (λbJ c aU al q aA=>hY (KM aU.g _ (yak az (yao am.n aU.n)) (yak hb aU.n) al) aA))) r h
  |keyN k Y bx=>
   rw[eM]at h
   exact ib (G Y (Gw.refl g)) (λs a w az q aA=>hY (BF w.g _ az _ bx) aA) r h
  |put k Y bx aV=>
   rw[eM]at h
   exact ib (G Y (Gw.refl g)) (λs a w az q aA=>hY (BG w.g _ az _ _ bx) aA) r h
  |grad k x Y=>
   rw[eM]at h
   cases aN:fi st u x with
   |error q=>rw[aN]at h;exact hY gN h
   |ok v=>
    rw[aN]at h
    have ap:=oP ao ai aN
    exact ib (G Y (Gw.refl g)) (λs a w az q aA=>hY (Hb w.g _ az (yak ap w.n)) aA) r h
  |jvp k x Y aO=>
   rw[eM]at h
   cases aN:fi st u x with
   |error q=>rw[aN]at h;exact hY gN h
   |ok v=>
    rw[aN]at h
    have ap:=oP ao ai aN
    exact ib (G Y (Gw.refl g)) (λs a w az=>ib (G aO w) (λaW b am hb q aA=>hY (KN am.g _ (yak az am.n) (yak ap (yao w.n am.n)) hb) aA)) r h
def Hc:List Tok->List Tok->Option Nat
 |_,[]=>none
 |seen,p::r=>if seen.any (λq=>q.text==p.text)=true then some p.pos else Hc (seen++[p]) r
def KO(ns:List Bdg)(s:List UInt8):Nat:=ns.findIdx λb=>b.nm==s
def LSt.setV(st:LSt)(i:Nat)(s:List UInt8)(v:Nat):LSt:={st with names:=st.names.set i (.val s v)}
def od(f:Nat)(e:Ex)(i:Nat)(s:List UInt8):Nat->LSt->Option (Rs LSt)
 |0,st=>some (.ok st)
 |k+1,st=>match eM f st [] e with
  |none=>none
  |some (.error q)=>some (.error q)
  |some (.ok (st1,v))=>od f e i s k (st1.setV i s v)
def qP(s:List UInt8)(r:Rs (LSt×Nat)):Rs LSt:=match r with
 |.error q=>.error q
 |.ok (st,v)=>.ok {st with names:=st.names++[.val s v]}
def Ok(r:Rs (LSt×Nat)):Rs LSt:=match r with
 |.error q=>.error q
 |.ok (st,v)=>.ok {st with outs:=st.outs++[(v:Int)]}
def inR(st:LSt)(n l:Tok):Rs LSt:=
 if ii l.text<1\/1000<ii l.text then .error (4,l.pos)
 else if 20<=st.ins.length then .error (5,n.pos)
 else qP n.text (fI {st with ins:=st.ins++[ii l.text]} (eJ 0 (ii l.text) (st.ins.length:Int) 0 0) n.pos)
def Hd(st:LSt)(n:Tok)(ps:List Tok)(e:Ex):Rs LSt:=match Hc [] ps with
 |some p=>.error (3,p)
 |none=>.ok {st with names:=st.names++[.fn n.text ps e]}
def pH(st:LSt)(n:Tok)(r:Option (Rs LSt)):Option (Rs LSt):=match iN st.names n.text with
 |some _=>some (.error (3,n.pos))
 |none=>r
def iz(f:Nat)(st:LSt):Sm->Option (Rs LSt)
 |.outS k e=>if 50<=st.outs.length then some (.error (5,k.pos))else (eM f st [] e).map Ok
 |.rep i n e=>match iN st.names n.text with
  |some (.val _ _)=>if 100<ii i.text then some (.error (5,i.pos))else od f e (KO st.names n.text) n.text (ii i.text).toNat st
  |_=>some (.error (3,n.pos))
 |.defS n ps e=>pH st n (some (Hd st n ps e))
 |.letS n e=>pH st n ((eM f st [] e).map (qP n.text))
 |.inS n l=>pH st n (some (inR st n l))
def oQ(f:Nat):LSt->List Sm->Option (Rs LSt)
 |st,[]=>some (.ok st)
 |st,s::ss=>match iz f st s with
  |none=>none
  |some (.error q)=>some (.error q)
  |some (.ok st1)=>oQ f st1 ss
def CM(st:LSt)(r:Rs (LSt×Nat)):Prop:=∀s x,r=.ok (s,x)->st.calls<=s.calls
theorem CM.err{q}:CM st (.error q):=λs x h=>by cases h
theorem CM.back{a}(h:a.calls<=b.calls)(k:CM b r):CM a r:=λs x e=>yao h (k s x e)
theorem kU(st v p):CM st (fI st v p):=λs x h=>by
 grind[fI]
theorem yo(n p):∀(xs:List Nat) (st s:LSt) (bw:List Nat),iu n p st xs=.ok (s,bw)->st.calls<=s.calls
 |[],st,s,bw,h=>by grind[iu]
 |i::r,st,s,bw,h=>by
  rw[iu]at h
  split at h
  ·cases aQ:fI st (eJ 10 n (i:Int) 0 0) p with
   |error q=>grind
   |ok y=>
    obtain⟨ar,j⟩:=y
    rw[aQ]at h
    simp only at h
    cases ba:iu n p ar r with
    |error q=>grind
    |ok y=>
     obtain⟨aW,d⟩:=y
     rw[ba]at h
     cases h
     exact yao (kU _ _ p _ j aQ) (yo n p r _ _ _ ba)
  ·cases ba:iu n p st r with
   |error q=>grind
   |ok y=>
    obtain⟨aW,d⟩:=y
    rw[ba]at h
    cases h
    exact yo n p r _ _ _ ba
theorem yp{s xs p}(h:jT st xs p=.ok (s,bw)):st.calls<=s.calls:=by
 unfold jT at h;split at h
 ·exact yo _ p _ _ s _ h
 cases h
theorem rN(st m p):CM st (iC st m p):=λs x h=>by
 grind[iC]
theorem Ol(st o a b):CM st (qM st o a b):=by
 unfold qM;cases ba:jT st [a,b] o.pos with
 |error q=>exact .err
 |ok y=>exact CM.back (yp ba) (kU _ _ _)
theorem KP(st k a b):CM st (qN st k a b):=by
 unfold qN;cases ba:jT st [a,b] k.pos with
 |error q=>exact .err
 |ok y=>
  simp only;split
  ·exact CM.back (yp ba) (kU _ _ _)
  cases aQ:fI y.1 (eJ 4 (eW y.1 (y.2.getD 0 0)) (y.2.getD 0 0:Nat) (y.2.getD 1 0:Nat) 0) k.pos with
  |error q=>exact .err
  |ok z=>exact CM.back (yao (yp ba) (kU _ _ _ _ _ aQ)) (kU _ _ _)
theorem Om(st k a b c):CM st (ye st k a b c):=by
 unfold ye;cases ba:jT st [a,b,c] k.pos with
 |error q=>exact .err
 |ok y=>exact CM.back (yp ba) (kU _ _ _)
theorem Ef(st k a n):CM st (mi st k a n):=by
 unfold mi;split
 ·split
  ·exact .err
  exact kU _ _ _
 split
 ·exact .err
 split
 ·exact .err
 exact kU _ _ _
theorem Eg(st k a i n):CM st (mj st k a i n):=by
 unfold mj;split
 ·exact .err
 split
 ·exact .err
 split
 ·exact .err
 exact kU _ _ _
theorem KQ(st k a x):CM st (pN st k a x):=by
 unfold pN;split
 ·exact .err
 exact rN _ _ _
theorem On(st k a x d):CM st (pV st k a x d):=by
 unfold pV;split
 ·cases aQ:fI st (eJ 10 (eW st x) (d:Int) 0 0) k.pos with
  |error q=>exact .err
  |ok y=>exact CM.back (kU _ _ _ _ _ aQ) (rN _ _ _)
 split
 ·exact .err
 exact rN _ _ _
theorem lz{a p}(F:∀r,a=some r->CM st r)(h2:∀s x,∀r,p s x=some r->CM s r):∀r,ju a p=some r->CM st r:=λr h=>by
 cases az:a with
 |none=>rw[az]at h;cases h
 |some aq=>
  rw[az]at h
  rcases aq with q|⟨s,x⟩
  ·cases h;exact .err
  ·exact CM.back (F _ az s x rfl) (h2 s x r h)
theorem yq{p}(aQ:∀s e r,p s e=some r->CM s r):∀(es:List Ex) (st s:LSt) (xs:List Nat),fQ p st es=some (.ok (s,xs))->st.calls<=s.calls
 |[],st,s,xs,h=>by grind[fQ]
 |e::es,st,s,xs,h=>by
  rw[fQ]at h
  cases F:p st e with
  |none=>grind
  |some aq=>
   rw[F]at h
   rcases aq with ay|⟨ar,x⟩
   ·cases h
   ·simp only at h
    cases h2:fQ p ar es with
    |none=>grind
    |some aT=>
     rw[h2]at h
     rcases aT with aB|⟨aW,ys⟩
     ·cases h
     ·cases h
      exact yao (aQ _ e _ F _ x rfl) (yq aQ _ _ s _ h2)
theorem tC:∀(f:Nat) (st:LSt) (u:Loc) (e:Ex) (r:Rs (LSt×Nat)),eM f st u e=some r->CM st r
 |0,st,u,e,r,h=>by rw[eM]at h;cases h
 |f+1,st,u,e,r,h=>by
  have G:∀st u e r,eM f st u e=some r->_:=λst u e r h=>tC f _ _ e r h
  have g:∀{st:LSt}{a r:Rs _},CM st a->some a=some r->_:=λh e=>by cases e;exact h
  cases e with
  |num t=>rw[eM]at h;exact g (kU _ _ _) h
  |name t=>
   rw[eM]at h
   cases aN:fi st u t with
   |error q=>rw[aN]at h;exact g .err h
   |ok v=>rw[aN]at h;exact g (λs x e=>by cases e;exact yad) h
  |neg o a=>grind[eM,lz,kU]
  |bin o a b=>rw[eM]at h;exact lz (λr h=>G _ _ _ r h) (λs x r h=>lz (λr h=>G _ _ _ r h) (λs x r h=>g (Ol _ _ _ _) h) r h) r h
  |call t es=>
   rw[eM]at h
   cases ba:iN st.names t.text with
   |none=>rw[ba]at h;exact g .err h
   |some b=>
    rw[ba]at h
    cases b with
    |val _ _=>exact g .err h
    |fn aS ps ay=>
     simp only at h
     by_cases c:ps.length=es.length
     ·rw[h7 c]at h
      cases az:fQ (λs e=>eM f s u e) st es with
      |none=>rw[az]at h;cases h
      |some q=>
       rw[az]at h
       rcases q with q|⟨ar,xs⟩
       ·exact g .err h
       ·have al:=yq (λs e r h=>G s _ e r h) _ _ _ xs az
        simp only at h
        by_cases d:500<=ar.calls
        ·rw[h7 d]at h;exact g .err h
        ·rw[h6 d]at h
         exact CM.back (by show st.calls<=ar.calls+1;omega) (G _ _ _ r h)
     ·rw[h6 c]at h;exact g .err h
  |key1 k a=>
   grind[eM,lz,kU]
  |key2 k a b=>grind[eM,lz,KP]
  |key3 k a b c=>grind[eM,lz,Om]
  |keyN k a n=>grind[eM,lz,Ef]
  |put k a i n=>rw[eM]at h;exact lz (λr h=>G _ _ _ r h) (λs x r h=>g (Eg _ _ _ _ _) h) r h
  |grad k a x=>
   rw[eM]at h
   cases aN:fi st u x with
   |error q=>rw[aN]at h;exact g .err h
   |ok v=>rw[aN]at h;exact lz (λr h=>G _ _ _ r h) (λs x r h=>g (KQ _ _ _ _) h) r h
  |jvp k a x d=>
   rw[eM]at h
   cases aN:fi st u x with
   |error q=>rw[aN]at h;exact g .err h
   |ok v=>grind[lz,On]
def EvT{α:Type}(E:Nat->Option (Rs α)):Prop:=∃r f,∀g,f<=g->E g=some r
theorem EvT.const{J}(r:Rs J):EvT (λ_=>some r):=⟨r,0,λ_ _=>rfl⟩
theorem EvT.succ{J}{E br:Nat->Option (Rs J)}(h:∀g,E (g+1)=br g)(k:EvT br):EvT E:=by
 obtain⟨r,f,k⟩:=k;refine⟨r,f+1,λg aK=>?_⟩;obtain⟨aC,rfl⟩:∃aC,g=aC+1:=⟨g-1,by omega⟩
 grind
theorem EvT.then{A}{p:Nat->LSt->Nat->Option (Rs (LSt×Nat))}(F:EvT A)(h2:∀f s x,A f=some (.ok (s,x))->EvT (λg=>p g s x)):EvT (λg=>ju (A g) (p g)):=by
 obtain⟨aq,f1,an⟩:=F;rcases aq with q|⟨s,x⟩
 ·exact⟨_,_,λg aK=>by dsimp only;rw[an g aK];rfl⟩
 obtain⟨aT,f2,av⟩:=h2 _ s x (an _ yad);exact⟨_,max f1 f2,λg aK=>by dsimp only;rw[an g xaa];exact av g xaa⟩
theorem Ac{p:Nat->LSt->Ex->Option (Rs (LSt×Nat))}(aQ:∀g s e r,p g s e=some r->CM s r):∀(es:List Ex) (st:LSt),(∀e∈es,∀s,st.calls<=s.calls->EvT (λg=>p g s e))->EvT (λg=>fQ (p g) st es)
 |[],st,_=>⟨.ok (st,[]),0,λg _=>by dsimp only;rw[fQ]⟩
 |e::es,st,h=>by
  obtain⟨aq,f1,an⟩:=h e xac _ yad
  dsimp only at an
  rcases aq with q|⟨s,x⟩
  ·exact⟨.error q,f1,λg aK=>by dsimp only;rw[fQ,an g aK]⟩
  ·have aw:=aQ _ _ e _ (an _ yad) s x rfl
   obtain⟨aT,f2,av⟩:=Ac aQ es s (λe Y s' h'=>h e (by simp[Y]) _ (yao aw h'))
   dsimp only at av
   rcases aT with q|⟨aW,xs⟩
   ·exact⟨.error q,max f1 f2,λg aK=>by grind[fQ]⟩
   ·exact⟨.ok (aW,x::xs),max f1 f2,λg aK=>by grind[fQ]⟩
theorem uG:∀(k n:Nat) (e:Ex),SizeOf.sizeOf e<=n->∀(st:LSt) (u:Loc),501-st.calls<=k->EvT (λg=>eM g st u e)
 |k,0,e,ag,st,u,O=>by cases e<;>simp at ag
 |k,n+1,e,ag,st,u,O=>by
  have sub:∀(a:Ex),SizeOf.sizeOf a<=n->∀s,st.calls<=s.calls->EvT (λg=>eM g s u a):=λa az s aw=>uG k n a az s u xaa
  have a6:∀{g:Nat}{a:Ex}{s s':LSt}{x:Nat},eM g s u a=some (.ok (s',x))->_:=λh=>tC _ _ _ _ _ h _ _ rfl
  cases e with
  |num t=>exact .succ (λg=>by rw[eM]) (.const _)
  |name t=>exact .succ (λg=>by rw[eM]) (.const _)
  |neg o a=>exact .succ (λg=>by rw[eM]) (.then (sub a (by grind) st yad) (λf s x h=>.const _))
  |bin o a b=>exact .succ (λg=>by rw[eM]) (.then (sub a (by grind) st yad) (λf s x h=>.then (sub b (by grind) s (a6 h)) (λf s x h=>.const _)))
  |call t es=>
   refine .succ (λg=>by rw[eM]) ?_
   cases ba:iN st.names t.text with
   |none=>exact .const _
   |some b=>
    cases b with
    |val _ _=>exact .const _
    |fn aS ps ay=>
     simp only
     by_cases c:ps.length=es.length
     ·simp only[h7 c]
      obtain⟨R,f1,an⟩:=Ac (p:=λg s e=>eM g s u e) (λg s e r h=>tC g s u e r h) es st (λe Y s aw=>sub e (by have:=List.sizeOf_lt_of_mem Y;grind) s aw)
      dsimp only at an
      rcases R with q|⟨ar,xs⟩
      ·exact⟨.error q,f1,λg aK=>by grind⟩
      ·have aw:=yq (p:=λs e=>eM f1 s u e) (λs e r h=>tC f1 s u e r h) es st ar xs (an f1 yad)
       by_cases d:500<=ar.calls
       ·exact⟨.error (5,t.pos),f1,λg aK=>by simp_all⟩
       ·match k,O with
        |0,O=>omega
        |k+1,O=>
         obtain⟨aT,f2,av⟩:=uG k (SizeOf.sizeOf ay) ay yad {ar with calls:=ar.calls+1} ((ps.map (·.text)).zip xs) (by show 501-(ar.calls+1)<=k;omega)
         dsimp only at av
         exact⟨aT,max f1 f2,λg aK=>by dsimp only;rw[an g xaa];simp only;rw[h6 d];exact av g xaa⟩
     ·simp only[h6 c];exact .const _
  |key1 w a=>exact .succ (λg=>by rw[eM]) (.then (sub a (by grind) st yad) (λf s x h=>.const _))
  |key2 w a b=>exact .succ (λg=>by rw[eM]) (.then (sub a (by grind) st yad) (λf s x h=>.then (sub b (by grind) s (a6 h)) (λf s x h=>.const _)))
  |key3 w a b c=>exact .succ (λg=>by rw[eM]) (.then (sub a (by grind) st yad) (λf s x h=>.then (sub b (by grind) s (a6 h)) (λf aW x h2=>.then (sub c (by grind) aW (yao (a6 h) (a6 h2))) (λf s x h=>.const _))))
  |keyN w a m=>exact .succ (λg=>by rw[eM]) (.then (sub a (by grind) st yad) (λf s x h=>.const _))
  |put w a i m=>exact .succ (λg=>by rw[eM]) (.then (sub a (by grind) st yad) (λf s x h=>.const _))
  |grad w a x=>
   refine .succ (λg=>by rw[eM]) ?_
   cases fi st u x with
   |error q=>exact .const _
   |ok v=>exact .then (sub a (by grind) st yad) (λf s x h=>.const _)
  |jvp w a x d=>
   refine .succ (λg=>by rw[eM]) ?_
   cases fi st u x with
   |error q=>exact .const _
   |ok v=>exact .then (sub a (by grind) st yad) (λf s x h=>.then (sub d (by grind) s (a6 h)) (λf s x h=>.const _))
termination_by k n=>(k,n)
theorem uH(st u e):EvT (λg=>eM g st u e):=uG _ _ e yad st u yad
theorem CI(e i s):∀(k:Nat) (st:LSt),EvT (λg=>od g e i s k st)
 |0,st=>⟨.ok st,0,λg _=>by dsimp only;rw[od]⟩
 |k+1,st=>by
  obtain⟨aq,f1,an⟩:=uH st [] e
  dsimp only at an
  rcases aq with q|⟨ar,v⟩
  ·exact⟨.error q,f1,λg aK=>by dsimp only;rw[od,an g aK]⟩
  ·obtain⟨aT,f2,av⟩:=CI e i s k (ar.setV i s v)
   exact⟨aT,max f1 f2,λg aK=>by grind[od]⟩
theorem He(st s):EvT (λg=>iz g st s):=by
 cases s with
 |outS k e=>
  simp only[iz];by_cases c:50<=st.outs.length
  ·simp only[h7 c];exact .const _
  simp only[h6 c];obtain⟨r,f,h⟩:=uH st [] e;dsimp only at h;exact⟨Ok r,f,λg aK=>by grind⟩
 |rep i n e=>
  simp only[iz];cases iN st.names n.text with
  |none=>exact .const _
  |some b=>
   cases b with
   |fn _ _ _=>exact .const _
   |val _ _=>
    simp only;by_cases c:100<ii i.text
    ·simp only[h7 c];exact .const _
    simp only[h6 c];exact CI _ _ _ _ _
 |defS n ps e=>simp only[iz,pH];cases iN st.names n.text<;>exact .const _
 |inS n l=>simp only[iz,pH];cases iN st.names n.text<;>exact .const _
 |letS n e=>
  simp only[iz,pH];cases iN st.names n.text with
  |some _=>exact .const _
  |none=>
   obtain⟨r,f,h⟩:=uH st [] e;dsimp only at h;exact⟨qP n.text r,f,λg aK=>by grind⟩
theorem Ad:∀(ss:List Sm) (st:LSt),EvT (λg=>oQ g st ss)
 |[],st=>⟨.ok st,0,λg _=>by dsimp only;rw[oQ]⟩
 |s::ss,st=>by
  obtain⟨aq,f1,an⟩:=He st s
  dsimp only at an
  rcases aq with q|ar
  ·exact⟨.error q,f1,λg aK=>by dsimp only;rw[oQ,an g aK]⟩
  ·obtain⟨aT,f2,av⟩:=Ad ss ar
   exact⟨aT,max f1 f2,λg aK=>by grind[oQ]⟩
theorem yr{i}(k)(h:okV ins vs i=true):okV (ins++[k]) vs i=true:=by
 grind[okV,gm]
theorem KR(ins vs){k}(O:1<=k/\k<=1000):okV (ins++[k]) (vs++[eJ 0 k (ins.length:Int) 0 0]) vs.length=true:=by
 have aN:(vs++[eJ 0 k (ins.length:Int) 0 0]).getD vs.length h9=eJ 0 k (ins.length:Int) 0 0:=by simp_all
 unfold okV;rw[aN,h7 (show(eJ 0 k (ins.length:Int) 0 0).op=0 from rfl)];simp only[Bool.and_eq_true];refine⟨⟨?_,?_⟩,?_,?_⟩
 ·grind[lenB]
 ·simp[fF,cnt,g7]
 ·grind[gm]
 simp_all
theorem M5(g:Gd st)(k)(h:st.ins.length<20):Gd {st with ins:=st.ins++[k]}:=
 ⟨g.n,g.c,List.all_eq_true.2 (λi hi=>yr k (List.all_eq_true.1 g.ok i hi)),g.k,by grind,g.o,g.m⟩
theorem M6(g:Gd st){k}(O:1<=k/\k<=1000):GVal (st.ins++[k]) (st.vs++[eJ 0 k (st.ins.length:Int) 0 0]):=by
 refine⟨λi hi=>?_,uC g.k (by grind)⟩;rw[yal,List.length_singleton]at hi;by_cases c:i<st.vs.length
 ·exact sU c (yr k (g.v.1 i c))
 grind[KR]
def Qh:Sm->Prop
 |.inS _ l=>Dgs l.text
 |.letS _ e=>EOK e
 |.rep i _ e=>Dgs i.text/\EOK e
 |.defS _ _ e=>EOK e
 |.outS _ e=>EOK e
structure Sg(a b:LSt):Prop where
 g:Gd b
 nm:NmOK b
 n:a.vs.length<=b.vs.length
 m:b.names.length<=a.names.length+1
theorem CJ(h:NmOK st){b}(hb:BOK st.vs.length b):NmOK {st with names:=st.names++[b]}:=λx ap=>by
 rcases List.mem_append.1 (show x∈st.names++[b] from ap) with c|c
 ·exact h x c
 simp_all
theorem CK(g:Gd st)(b)(h:st.names.length<5000):Gd {st with names:=st.names++[b]}:=
 ⟨g.n,g.c,g.ok,g.k,g.i,g.o,by grind⟩
theorem Oo(g:Gd st)(v)(h:st.outs.length<50):Gd {st with outs:=st.outs++[v]}:=
 ⟨g.n,g.c,g.ok,g.k,g.i,by grind,g.m⟩
theorem wo{d s}(ao:st.names.length=d.names.length)(ag:d.vs.length<=st.vs.length)(aS:NmOK st)(bK:d.names.length<5000)(aF:RsG st r)(h:qP t r=.ok s):Sg d s:=by
 rcases r with q|⟨ar,v⟩
 ·cases h
 cases h;obtain⟨w,aN⟩:=aF _ v rfl;exact⟨CK w.g _ (by rw[w.m,ao];exact bK),CJ (aS.gw w) aN,yao ag w.n,by show(ar.names++[_]).length<=_;rw[yal,w.m,ao];simp⟩
theorem Ae{f e}(Y:EOK e)(i s):∀(k:Nat) (st s':LSt),Gd st->NmOK st->od f e i s k st=some (.ok s')->Gd s'/\NmOK s'/\st.vs.length<=s'.vs.length/\s'.names.length=st.names.length
 |0,st,s',g,aS,h=>by grind[od]
 |k+1,st,s',g,aS,h=>by
  rw[od]at h
  cases F:eM f st [] e with
  |none=>grind
  |some aq=>
   rw[F]at h
   rcases aq with q|⟨ar,v⟩
   ·cases h
   ·obtain⟨w,aN⟩:=fX f _ _ e g aS (λb hb=>by cases hb) Y _ F _ v rfl
    have a0:Gd (ar.setV i s v):=⟨w.g.n,w.g.c,w.g.ok,w.g.k,w.g.i,w.g.o,by show(ar.names.set i _).length<=5000;rw[List.length_set];exact w.g.m⟩
    have ae:NmOK (ar.setV i s v):=λb hb=>by
     rcases List.mem_or_eq_of_mem_set (show b∈ar.names.set i _ from hb) with c|c
     ·exact aS.gw w b c
     ·subst c;exact aN
    obtain⟨an,av,aZ,bW⟩:=Ae Y i s k _ _ a0 ae h
    exact⟨an,av,yao w.n aZ,by rw[bW];show(ar.names.set i _).length=_;rw[List.length_set,w.m]⟩
theorem Eh{s' s}(g:Gd st)(aS:NmOK st)(bK:st.names.length<5000)(aw:Qh s)(h:iz f st s=some (.ok s')):Sg st s':=by
 cases s with
 |outS k e=>
  simp only[iz]at h;by_cases c:50<=st.outs.length
  ·grind
  rw[h6 c]at h;cases F:eM f st [] e with
  |none=>grind
  |some aq=>
   rw[F]at h;rcases aq with q|⟨ar,v⟩
   ·cases h
   obtain⟨w,aN⟩:=fX f _ _ e g aS (λb hb=>by cases hb) aw _ F _ v rfl;cases h;exact⟨Oo w.g _ (i3 w.o),(λb hb=>aS.gw w b hb),w.n,by show ar.names.length<=_;rw[w.m];omega⟩
 |rep i n e=>
  simp only[iz]at h;split at h
  ·split at h
   ·cases h
   obtain⟨an,av,aZ,bW⟩:=Ae aw.2 _ _ _ _ _ g aS h;exact⟨an,av,aZ,by omega⟩
  cases h
 |defS n ps e=>
  simp only[iz,pH]at h;split at h
  ·cases h
  simp only[Hd]at h;split at h
  ·cases h
  cases h;exact⟨CK g _ bK,CJ aS aw,yad,by simp_all⟩
 |letS n e=>
  simp only[iz,pH]at h;split at h
  ·cases h
  cases F:eM f st [] e with
  |none=>grind
  |some aq=>
   rw[F]at h;exact wo rfl yad aS bK (fX f _ _ e g aS (λb hb=>by cases hb) aw _ F) (h8 h)
 |inS n l=>
  simp only[iz,pH]at h;split at h
  ·cases h
  simp only[inR]at h;split at h
  ·cases h
  split at h
  ·cases h
  rename_i c1 c2;have O:1<=ii l.text/\ii l.text<=1000:=xaa;exact wo (st:={st with ins:=st.ins++[ii _]}) rfl yad aS bK (jW (M5 g _ xaa) (M6 g O) _) (h8 h)
theorem Af(s):mA s≠ik/\mA s≠kO:=by
 unfold mA;split
 ·rename_i h;constructor
  ·rintro rfl;revert h;decide
  rintro rfl;revert h;decide
 exact⟨by decide,by decide⟩
theorem Ag(x):ll x≠ik/\ll x≠kO:=by
 grind[ll,ik,kO]
theorem CL{i}(hi:i<t.length)(h:(nxT t i).sym=ik):∀k,k<(nxT t i).text.length->48<=bt (nxT t i).text k/\bt (nxT t i).text k<=57:=by
 unfold nxT at h⊢;split at h
 ·exact absurd h (Af _).1
 split at h
 ·rename_i c1 c2;rw[h6 c1,h7 c2];simp only at h⊢;unfold tS at h;split at h
  ·exact absurd h xab
  rename_i c3;have e:sH t i=gJ dig t i:=by unfold sH;grind
  rw[e];intro k O;rw[zd (lL _ t i xaa)]at O;rw[F8 O];exact tR (y9 i _ xaa xaa)
 exact absurd h (Ag _).1
theorem Ah(t i):∀C∈kL t i,C.sym=ik->∀k,k<C.text.length->48<=bt C.text k/\bt C.text k<=57:=by
 intro C ao aw;rw[kL]at ao;split at ao
 ·rename_i h;split at ao
  ·simp_all[CL]
  rcases List.mem_cons.1 ao with c|c
  ·subst c;exact CL h aw
  exact Ah t _ _ c aw
 cases ao
termination_by t.length-i
decreasing_by
 grind[tT,pR]
theorem Oq{l}(h:∀k,k<l.length->48<=bt l k/\bt l k<=57)(ag:kD l):Dgs l:=by
 refine⟨?_,h⟩
 have al:(gU l).countP dig=(gU l).length:=by
  rw[List.countP_eq_length];intro x ap;unfold gU at ap;obtain⟨b,hb,rfl⟩:=List.mem_map.1 ap;obtain⟨k,O,rfl⟩:=List.getElem_of_mem hb;have:=h k O;unfold bt at this;rw[yai,yam O]at this;simp only[Option.getD_some]at this;simp[dig];omega
 have h2:=ag.2;rw[al]at h2;unfold gU at h2;grind
def isN(tk:Tok):Prop:=tk.sym=ik\/tk.sym=kO
def Hf(x:List UInt8)(c:Int):Prop:=(¬xw (gU x)/\c=2)\/(xw (gU x)/\15<(gU x).countP dig/\c=5)
theorem Ai{x}(h:RN (gU x) f c):(kD x/\c=0)\/(Hf x c/\c≠0):=by
 rcases h with⟨F,_,h2⟩|⟨F,h2,_,h3⟩|⟨F,h2,_,_,h3⟩
 ·exact .inr ⟨.inl ⟨F,h2⟩,by omega⟩
 ·exact .inr ⟨.inr ⟨F,h2,h3⟩,by omega⟩
 exact .inl ⟨⟨F,h2⟩,h3⟩
def LSt.zero:LSt:=⟨[],[],[],[],0⟩
theorem KT:Gd LSt.zero:=⟨by decide,by decide,by decide,λv aN=>(by cases aN),by decide,by decide,by decide⟩
theorem KU:NmOK LSt.zero:=λb hb=>by cases hb
theorem Ei{s ss r}(h:oQ f st (s::ss)=some r):∃aq,iz f st s=some aq/\(∀q,aq=.error q->r=.error q)/\(∀ar,aq=.ok ar->oQ f ar ss=some r):=by
 grind[oQ]
end
section
attribute[local go_sem] eE eD eC
noncomputable abbrev Rd (n:Nat):Code:=(Tryz.f134.body.bind (pM n)).getD .skip
theorem Ot{w W aD A Z af ab ah base cap b0 ai o U aa ins outs au act us R p q g K b a c d f h i j k n r s t u v x y z I C D E br G ad bW ag L M N bu P Q S T bh Vaa X bo cl aX cS av cT cV c6 c7 c9 di ds dv dT ay bA aP d1 d2 d4 aF d5 bN d6 d7 ce cf ci cj aE cX ck cn aQ cw cA a5 cB cC cD cI cJ aI bi aL cK cM cN cF cO cP cg a1 J a3 a4 bp cu a8 aM cd e1 bz bg e2 e3 b4 e5 e6 e7 e9 fa fc ff b5 fj fl fm fq bs bt fs eb fu a7 aN d9 dg ea ec ej aV b1 ct bX cR bJ fv bc cb aK aO fz co aB ek el en bD ep eq er et eu ev ew ex ey ez eB eL eP eR eS eT e0 bL}(Y:V (LG w W aD A U Z af aa ab ah ins outs us au act base R (some ⟨b0,0,none⟩) cap))(bM:us.length<=900000)(ho:o<us.length)(a2:o<ai)(ao:au.length=ai)(dd:(us.getD o h9).len=g)(aA:au.getD o 0=q)
  (O:∀(H:World) (aC cap':Nat) (l m F ae aj al ap aw ax az aJ aR aS aU:Value),V (LG w H aD A U Z af aa ab ah ins outs (us++[eJ 2 g q p 0]) au act base (some aC) (some ⟨aC,0,none⟩) cap')->K ⟨#[b,a,c,hZ w.heap.size,d,f,h,i,j,k,h0 aD ai ai,n,r,s,h1 o,t,h1 p,u,v,x,y,z,I,C,D,E,br,G,ad,bW,ag,L,M,N,bu,P,Q,S,T,bh,Vaa,X,bo,cl,aX,cS,av,cT,cV,c6,c7,c9,di,ds,dv,dT,ay,bA,aP,d1,d2,d4,aF,d5,bN,d6,d7,ce,cf,ci,cj,aE,cX,ck,cn,aQ,cw,cA,a5,cB,cC,cD,cI,cJ,aI,bi,aL,cK,cM,cN,cF,cO,cP,cg,a1,J,a3,a4,bp,cu,a8,aM,cd,e1,bz,bg,e2,e3,b4,e5,e6,e7,e9,fa,fc,ff,b5,fj,fl,fm,fq,bs,bt,fs,eb,fu,a7,aN,d9,dg,ea,ec,ej,l,m,F,ae,aj,al,ap,aw,ax,az,aJ,aR,aS,aU,ek,el,en,bD,ep,eq,er,et,eu,ev,ew,ex,ey,ez,eB,eL,eP,eR,eS,eT,e0,bL],[]⟩ H):
  Code.wp prog (Rd 27) (Exit.then K λ_ _ _=>False) ⟨#[b,a,c,hZ w.heap.size,d,f,h,i,j,k,h0 aD ai ai,n,r,s,h1 o,t,h1 p,u,v,x,y,z,I,C,D,E,br,G,ad,bW,ag,L,M,N,bu,P,Q,S,T,bh,Vaa,X,bo,cl,aX,cS,av,cT,cV,c6,c7,c9,di,ds,dv,dT,ay,bA,aP,d1,d2,d4,aF,d5,bN,d6,d7,ce,cf,ci,cj,aE,cX,ck,cn,aQ,cw,cA,a5,cB,cC,cD,cI,cJ,aI,bi,aL,cK,cM,cN,cF,cO,cP,cg,a1,J,a3,a4,bp,cu,a8,aM,cd,e1,bz,bg,e2,e3,b4,e5,e6,e7,e9,fa,fc,ff,b5,fj,fl,fm,fq,bs,bt,fs,eb,fu,a7,aN,d9,dg,ea,ec,ej,aV,b1,ct,bX,cR,bJ,fv,bc,cb,aK,aO,fz,co,aB,ek,el,en,bD,ep,eq,er,et,eu,ev,ew,ex,ey,ez,eB,eL,eP,eR,eS,eT,e0,bL],[]⟩ W:=by
 have HK:V _:=O;clear O;have aY:=Y.o.l.g.c0;have ar:=Y.o.l.g.c1;have aW:=Y.o.l.g.c2;obtain⟨d0,da,_,_,be⟩:=Y.o.l.read xaa;cases da;have B:=(be o ho).c1;rw[dd]at B;have cQ:=IR.cell Y.o.m o xaa;rw[aA]at cQ;have ed:0<=(o:Int):=xaa;have ch:(o:Int)<us.length:=xaa;have b9:(o:Int)<ai:=xaa;clear dd aA be ao ho a2;conv=>arg 2;whnf
 go_region_with (first
  |(go_at_call 78;refine yaj (LK.call Y.o.l ((eF W).trans an) (eJ 2 g q p 0) xaa) ?_;rintro e am ⟨aC,cap',rfl,⟨u0,bq⟩,⟨u1,aq⟩,⟨u2,aT⟩,ak,aG⟩;have bR:=ak 0;have bS:=ak 1;have bT:=ak 2;have bV:V _:=Y.o.stq aG.o.1 aG.o.2;clear ak aG)
  |(go_at_call 79;refine yaj (gG _ _ _ _ _ _) ?_;rintro e aH ⟨rfl,an⟩;have bH:=(LG.keep Y.o ((eF W).trans an)).l.g.c0;have bk:=(LG.keep Y.o ((eF W).trans an)).l.g.c1;have p2:=(LG.keep Y.o ((eF W).trans an)).l.g.c2))
 all_goals exact HK.o _ _ _ _ _ _ _ _ _ _ _ _ _ _ _ _ _ bV
theorem KV{W P}(bK:W.cell? ⟨P,5,none⟩=some (h1 0))(b3:W.cell? ⟨P,6,none⟩=some (h1 0))(fr:∀o,W.frozen? ⟨P,o,none⟩=false)(c)(p:Nat)(M)(bJ:M P):
  Calls prog 111 #[hZ P,h1 c,h1 p] W λe H=>e=.returned (h1 (-1))/\Bad W P M c p H/\∀o,o≠5->o≠6->H.cell? ⟨P,o,none⟩=W.cell? ⟨P,o,none⟩:=by
 have d:=fr 5;have Y:=fr 6;have R1:V (((W.setCell _ _).setCell ⟨P,6,_⟩ (h1 p)).cell? _=some (h1 c)):=(eV _ _ _ _ _ _ (.inr xaa)).trans (fy _ _ _ _ _ bK);have R2:V (((W.setCell ⟨P,5,_⟩ (h1 c)).setCell _ (h1 p)).cell? _=some _):=fy _ _ _ _ _ ((eV _ _ _ _ _ _ (.inr xaa)).trans b3);have R3:V _:=Chg.andThen ((eU W ⟨P,5,none⟩ (h1 c) yac).chg1 bJ) ((eU _ ⟨P,6,none⟩ (h1 p) yac).chg1 bJ);have N:V (∀o,o≠5->o≠6->((W.setCell ⟨P,5,_⟩ (h1 c)).setCell ⟨P,6,_⟩ (h1 p)).cell? ⟨P,o,_⟩=W.cell? _):=λo F h2=>(eV _ _ _ _ _ _ (.inr (λe=>h2 e.symm))).trans (eV _ _ _ _ _ _ (.inr (λe=>F e.symm)));clear fr bJ;go_enter func111,ntmps111;go_wp2;go_ret;exact⟨rfl,⟨R1.o,R2.o,R3.o⟩,N.o⟩
theorem M.qaq(h:Zp:=by
 go_region_law
  ((refine step_append_lies _ rfl _ _ _ rfl I 86 _ _ 6 _ underlying106 hi hz0 hz1 hz2 rfl xab _ _ _ (by simp[Act.eval]) (lU bq.o 1 _) _ 1 1 _ (by simp[Act.eval]) rfl (Cu _ _ _) (F0 v) xab (by unfold maxLen;omega) xaa yag _ rfl ?_;intro g9 cap9 bn bU bK bO bV;have aY:=kR bK aM HR.o.1 c1;have bN:=far2 bK aM HR.o.1 cx;have ar:=kR bK d HR.o.2 aw;have aW:=kR bK d HR.o.2 ba;have bJ:=kR bK d HR.o.2 bb;have cB:=kR bK d HR.o.2 bc;have cy:=kR bK d HR.o.2 bo;have cI:=kR bK d HR.o.2 aF))
 all_goals
  have be:=bO.imp id (λe=>Nat.le_of_eq e.symm)
  have ab:=(eA 0 0 aH (.cells #[h1 v.op,h1 v.len,h1 v.a,h1 v.b,h1 v.c,.float .f64 v.k] 86)).trans (eH 0 0 _ 1)
  have l:bn.ownsRow I 86 6 (h0 g9 (N+1) cap9) (N+1) (fN (st.vs++[v])):=by rw[mC,qE];exact bU
  obtain⟨(u:V _),Q⟩:=(bL.o.keep ab).vals (fT bK) (by rw[yal,HN.o];rfl) l be
  have aQ:V _:=(HM1.o.keep ab).trans Q
  clear Q be ab bU l bK bO bV aY bN ar aW bJ cB cy cI aw ba bb bc bo aF cx c1 bq bL HM1
  generalize bn.setCell ⟨P,1,_⟩ _=a5 at u aQ⊢
  obtain⟨a1,bB,a2',bG,a3,b3,af,bg,ah,f⟩:=u.o.gs bQ.o
  simp only at af ah f
  subst af ah
  have aD:V _:=BD _ _ _ _ _ bB _ bG _ b3 _ _ _ f b.o
  have t:(st.vs++[v]).length=N+1:=by grind
  have n:V _:=λH=>iY H a1 a2' a3 st.ins.length bB (N+1) bG st.outs.length b3 xaa
  rw[t]at aD bg
  clear f
  have bh:=u.o.c0
  have aJ:=u.o.c1
  have y2:=u.o.c2
  cases bg
  cases hb:kz (st.vs++[v])
  ·rw[hb]at aD bZ
   have S:V _:=bZ.o.trans (h6 xac)
   have m:V (∀H,Kept 0 0 _ H->H.cell? _=some _/\H.cell? _=some _/\H.cell? _=some _):=λH k=>⟨(u.o.keep k).c0,(u.o.keep k).c1,(u.o.keep k).c2⟩
   clear hb bZ
   go_wp2_with (first
    |(go_at_call 130;refine yaj aD.o ?_;rintro e bf ⟨rfl,au⟩;obtain⟨aP,ay,aB⟩:=m.o _ au)
    |(go_at_call 85;refine yaj (n.o _) ?_;rintro e aO ⟨rfl,ad⟩))
   go_ret
   rw[S.o]
   exact⟨⟨by simp,_,_,_,_,(u.o.keep au).keep ad,(aQ.o.keep au).keep ad⟩,((u.o.keep au).keep ad).c0⟩
  ·rw[hb]at aD bZ
   have S:V _:=bZ.o.trans (h7 rfl)
   have bT:V (∀H,Kept 0 0 _ H->_):=λH k=>KV (u.o.keep k).c5 (u.o.keep k).c6 (u.o.keep k).fr 5 p (Mst P (.slice a1 st.ins.length bB) (h0 g9 (N+1) cap9) (.slice a3 st.outs.length b3) u4) (.inl rfl)
   clear hb bZ
   go_wp2_with (first
    |(go_at_call 130;refine yaj aD.o ?_;rintro e bf ⟨rfl,au⟩)
    |(go_at_call 111;refine yaj (bT.o _ au) ?_;rintro e aO ⟨rfl,G,a⟩))
   go_ret
   rw[S.o]
   exact⟨⟨rfl,G.c5,G.c6,(aQ.o.keep au).bad G.chg⟩,(a 0 xab xab).trans (u.o.keep au).c0⟩):Zp:=h
open M in
theorem Ou{W P I u1 u2 u3 u4 bs st}(h:WS W P I u1 u2 u3 u4 bs st)(g:Gd st)(v)(aN:1<=v.len/\v.len<=1000)(X:v.k<18446744073709551616)(p:Nat):
  Calls prog 115 #[hZ P,v.agg,h1 p] W (λe H=>TrO W P I u1 u2 u3 u4 bs (fI st v p) e H/\H.cell? ⟨P,0,none⟩=some u1):=by
 exact qap
