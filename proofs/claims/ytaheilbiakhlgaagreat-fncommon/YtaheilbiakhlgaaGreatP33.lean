import Derived.Test.YtaheilbiakhlgaaGreatP23
import Derived.Test.YtaheilbiakhlgaaGreatP32
namespace Go.Proofs.Z
variable{Zp:Prop}
open Tryz Go.RowKit Flt
set_option maxRecDepth 1000000
set_option maxHeartbeats 0
section
variable{ins:List Int}{st b N:LSt}{f a s x k:Nat}{vs0 vs us:List Vl}{j op c q:Int}{aW:List Nat}{t:List UInt8}{r:Rs (LSt×Nat)}
def GVal(ins:List Int)(vs:List Vl):Prop:=(∀i,i<vs.length->okV ins vs i=true)/\∀v∈vs,v.k<18446744073709551616
def Ln(vs:List Vl)(j n:Int):Prop:=0<=j/\j<(vs.length:Int)/\(vs.getD j.toNat hK).len=n
theorem Ln.app{n}(h:Ln vs j n)(us):Ln (vs++us) j n:=by
 obtain⟨B,U,h3⟩:=h;refine⟨B,by grind,?_⟩;grind
theorem iD(vs v){n}(hj:j=(vs.length:Int))(aM:v.len=n):Ln (vs++[v]) j n:=by
 subst hj;refine⟨by omega,by grind,?_⟩;simp_all
theorem GVal.len(g:GVal ins vs){n}(h:Ln vs j n):1<=n/\n<=1000:=by
 obtain⟨B,U,h3⟩:=h;have:=iq (g.1 j.toNat xaa);omega
theorem GVal.push(g:GVal ins vs)(v)(ai:v.op≠0)(ah:1<=v.len/\v.len<=1000)(O:v.k<18446744073709551616)(ae:gC v=true)(ax:∀o∈eY v,0<=o/\o<(vs.length:Int))(l:eR v.op v.len v.c ((eY v).map λo=>(vs.getD o.toNat hK).len)=true):GVal ins (vs++[v]):=by
 refine⟨λi hi=>?_,tF g.2 O⟩;rw[yak,List.length_singleton]at hi;by_cases c:i<vs.length
 ·exact qn c (g.1 i c)
 grind[BG]
theorem GVal.p1(g:GVal ins vs){n}(hn:1<=n/\n<=1000)(O:k<18446744073709551616):GVal ins (vs++[⟨1,n,0,0,0,k⟩]):=
 g.push _ (by grind) hn O (by simp[gC,cnt,iY]) (by intro o h;simp[eY,cnt]at h) (by simp[eY,cnt,eR])
theorem GVal.z(g:GVal ins vs){n}(hn:1<=n/\n<=1000):GVal ins (vs++[eK 1 n 0 0 0]):=g.p1 hn xab
theorem GVal.two(g:GVal ins vs){n p}(ax:op=2\/op=3\/op=4\/op=5\/op=7)(aF:Ln vs p n)(ao:Ln vs q n):GVal ins (vs++[eK op n p q 0]):=by
 have hn:=g.len aF;obtain⟨a5,p2,z⟩:=aF;rw[yah]at z;obtain⟨aK,aP,b3⟩:=ao;rw[yah]at b3;refine g.push _ (by grind) hn (by grind) ?_ ?_ ?_
 ·rcases ax with rfl|rfl|rfl|rfl|rfl<;>grind[gC,cnt]
 ·grind[eY]
 rcases ax with rfl|rfl|rfl|rfl|rfl<;>grind[eY,cnt,eR]
theorem GVal.one(g:GVal ins vs){n p}(ax:op=6\/op=13)(aF:Ln vs p n):GVal ins (vs++[eK op n p 0 0]):=by
 have hn:=g.len aF;obtain⟨a5,p2,z⟩:=aF;rw[yah]at z;refine g.push _ (by grind) hn (by grind) ?_ ?_ ?_
 ·grind[gC,cnt]
 ·grind[eY]
 rcases ax with rfl|rfl<;>simp[eY,cnt,eR,z]
theorem GVal.sel(g:GVal ins vs){n d p}(G:Ln vs d n)(aF:Ln vs p n)(ao:Ln vs q n):GVal ins (vs++[eK 8 n d p q]):=by
 have hn:=g.len aF;obtain⟨d1,d2,d3⟩:=G;rw[yah]at d3;obtain⟨a5,p2,z⟩:=aF;rw[yah]at z;obtain⟨aK,aP,b3⟩:=ao;rw[yah]at b3;refine g.push _ (by grind) hn (by grind) ?_ ?_ ?_
 ·simp[gC,cnt,iY]
 ·grind[eY]
 simp[eY,cnt,eR,d3,z,b3]
theorem GVal.p9(g:GVal ins vs){l p}(aF:Ln vs p l):GVal ins (vs++[eK 9 1 p 0 0]):=by
 have hn:=g.len aF;obtain⟨a5,p2,z⟩:=aF;rw[yah]at z;refine g.push _ (by grind) ⟨by grind,by grind⟩ (by grind) ?_ ?_ ?_
 ·simp[gC,cnt,iY]
 ·grind[eY]
 simp[eY,cnt,eR,z,lenB,hn]
theorem GVal.p10(g:GVal ins vs){n p}(hn:1<=n/\n<=1000)(aF:Ln vs p 1):GVal ins (vs++[eK 10 n p 0 0]):=by
 obtain⟨a5,p2,z⟩:=aF;rw[yah]at z;refine g.push _ (by grind) hn (by grind) ?_ ?_ ?_
 ·simp[gC,cnt,iY]
 ·grind[eY]
 simp[eY,cnt,eR,z]
theorem GVal.p11(g:GVal ins vs){l p}(aF:Ln vs p l)(ak:0<=c/\c<l):GVal ins (vs++[eK 11 1 p 0 c]):=by
 have hn:=g.len aF;obtain⟨a5,p2,z⟩:=aF;rw[yah]at z;refine g.push _ (by grind) ⟨by grind,by grind⟩ (by grind) ?_ ?_ ?_
 ·simp[gC,cnt,iY]
 ·grind[eY,cnt]
 grind[eY,cnt,eR,lenB,fN]
theorem GVal.p12(g:GVal ins vs){n p}(hn:1<=n/\n<=1000)(aF:Ln vs p 1)(ak:0<=c/\c<n):GVal ins (vs++[eK 12 n p 0 c]):=by
 obtain⟨a5,p2,z⟩:=aF;rw[yah]at z;refine g.push _ (by grind) hn (by grind) ?_ ?_ ?_
 ·simp[gC,cnt,iY]
 ·grind[eY,cnt]
 simp[eY,cnt,eR,z,fN,ak]
def Put(ins:List Int)(vs:List Vl)(n:Int)(M:List Vl×Int):Prop:=GVal ins (vs++M.1)/\Ln (vs++M.1) M.2 n
def xC(ins:List Int)(vs:List Vl)(n:Int)(M:List Vl×Int):Prop:=GVal ins (vs++M.1)/\(M.2=-1\/Ln (vs++M.1) M.2 n)
theorem Put.o{n M}(h:Put ins vs n M):xC ins vs n M:=⟨h.1,.inr h.2⟩
section
variable{ins:List Int}{vs:List Vl}{n r:Int}
theorem Gk(g:GVal ins vs)(h:Ln vs r n):Put ins vs n ([],r):=⟨by simpa using g,by simpa using h⟩
theorem Dg(g:GVal ins vs):xC ins vs n ([],-1):=⟨by simpa using g,.inl rfl⟩
theorem put1{a}(g:GVal ins (vs++[a]))(h:a.len=n)(av:r=(vs.length:Int)):Put ins vs n ([a],r):=⟨g,iD vs a av h⟩
theorem put2{a b}(g:GVal ins ((vs++[a])++[b]))(h:b.len=n)(av:r=((vs.length+1:Nat):Int)):Put ins vs n ([a,b],r):=by
 have U:=iD (vs++[a]) b (j:=r) (by grind) h;rw[List.append_assoc]at g U;exact⟨g,U⟩
theorem put3{a b c}(g:GVal ins (((vs++[a])++[b])++[c]))(h:c.len=n)(av:r=((vs.length+2:Nat):Int)):Put ins vs n ([a,b,c],r):=by
 have U:=iD ((vs++[a])++[b]) c (j:=r) (by rw[av];simp) h;simp only[List.append_assoc]at g U;exact⟨g,U⟩
theorem PT{a b c d}(g:GVal ins ((((vs++[a])++[b])++[c])++[d]))(h:d.len=n)(av:r=((vs.length+3:Nat):Int)):Put ins vs n ([a,b,c,d],r):=by
 have U:=iD (((vs++[a])++[b])++[c]) d (j:=r) (by rw[av];simp) h;simp only[List.append_assoc]at g U;exact⟨g,U⟩
end
def jy(vs:List Vl)(j:Int):Int:=(vs.getD j.toNat hK).len
section
variable{ins:List Int}{vs:List Vl}{i:Nat}{v:Vl}
theorem lH(ok:okV ins vs i=true)(e:vs.getD i hK=v)(ai:v.op≠0):eR v.op v.len v.c ((eY v).map λo=>jy vs o)=true/\gC v=true:=by
 unfold okV at ok;rw[e,hG ai,Bool.and_eq_true,Bool.and_eq_true,Bool.and_eq_true]at ok;exact⟨ok.2.2,ok.1.2⟩
theorem pR(ok:okV ins vs i=true)(hi:i<vs.length)(e:vs.getD i hK=v){q}(ao:q<cnt v.op):Ln vs (fld v q) (jy vs (fld v q)):=by
 have h:=mG ok q (by grind);rw[e]at h;exact⟨h.1,by omega,rfl⟩
theorem Gl(ok:okV ins vs i=true)(_hi:i<vs.length)(e:vs.getD i hK=v)(ax:v.op=2\/v.op=3\/v.op=4\/v.op=5\/v.op=7):cnt v.op=2/\jy vs v.a=v.len/\jy vs v.b=v.len:=by
 have h:=(lH ok e xaa).1;have ak:cnt v.op=2:=by rcases ax with c|c|c|c|c<;>(rw[c];rfl)
 grind[eY,eR]
theorem xD(ok:okV ins vs i=true)(e:vs.getD i hK=v)(ax:v.op=6\/v.op=13):cnt v.op=1/\jy vs v.a=v.len/\v.c=0:=by
 grind[lH,cnt,iY,eY,eR,gC]
theorem Gm(ok:okV ins vs i=true)(e:vs.getD i hK=v)(ax:v.op=8):cnt v.op=3/\jy vs v.a=v.len/\jy vs v.b=v.len/\jy vs v.c=v.len:=by
 grind[lH,cnt,eY,eR]
theorem Pf(ok:okV ins vs i=true)(e:vs.getD i hK=v)(ax:v.op=9):cnt v.op=1/\v.len=1/\v.c=0:=by
 obtain⟨h,ae⟩:=lH ok e xaa;grind[cnt,iY,eR,gC]
theorem Lz(ok:okV ins vs i=true)(e:vs.getD i hK=v)(ax:v.op=10):cnt v.op=1/\jy vs v.a=1/\v.c=0:=by
 grind[lH,cnt,iY,eY,eR,gC]
theorem LB(ok:okV ins vs i=true)(e:vs.getD i hK=v)(ax:v.op=11):cnt v.op=1/\v.len=1/\0<=v.c/\v.c<jy vs v.a:=by
 grind[lH,cnt,eY,eR,fN]
theorem LC(ok:okV ins vs i=true)(e:vs.getD i hK=v)(ax:v.op=12):cnt v.op=1/\jy vs v.a=1/\0<=v.c/\v.c<v.len:=by
 grind[lH,cnt,eY,eR,fN]
theorem Gn(ok:okV ins vs i=true)(e:vs.getD i hK=v):v.op=0\/(1<=v.op/\v.op<=13):=by
 by_cases ai:v.op=0
 ·exact .inl ai
 have h:=(lH ok e ai).1;grind[eR]
theorem J5(g:GVal ins vs){n p q}(aF:p=-1\/Ln vs p n)(ao:q=-1\/Ln vs q n):xC ins vs n (yn n p q vs.length):=by
 unfold yn;by_cases c:p=-1
 ·rw[hI c];rcases ao with rfl|ao
  ·exact Dg g
  exact(Gk g ao).o
 have l:=aF.resolve_left c;rw[hG c];by_cases d:q=-1
 ·rw[hI d];exact(Gk g l).o
 rw[hG d];exact(put1 (g.two (.inl rfl) l (ao.resolve_left d)) rfl rfl).o
theorem J6(g:GVal ins vs){n p q}(aF:p=-1\/Ln vs p n)(ao:q=-1\/Ln vs q n):xC ins vs n (yo n p q vs.length):=by
 unfold yo;by_cases d:q=-1
 ·rw[hI d];rcases aF with rfl|aF
  ·exact Dg g
  exact(Gk g aF).o
 have u:=ao.resolve_left d;rw[hG d];by_cases c:p=-1
 ·rw[hI c];exact(put1 (g.one (.inl rfl) u) rfl rfl).o
 rw[hG c];exact(put1 (g.two (.inr (.inl rfl)) (aF.resolve_left c) u) rfl rfl).o
theorem Gp(g:GVal ins vs){n d p q}(G:Ln vs d n)(aF:p=-1\/Ln vs p n)(ao:q=-1\/Ln vs q n):Put ins vs n (chM n d p q vs.length):=by
 have hn:=g.len G;have z:=g.z hn;have bN:Ln (vs++[eK 1 n 0 0 0]) _ n:=iD _ _ rfl rfl;unfold chM;by_cases c:p=-1
 ·rw[hI c];by_cases e:q=-1
  ·rw[hI e];exact put3 ((z.z hn).sel ((G.app _).app _) (bN.app _) (iD _ _ xac rfl)) rfl rfl
  rw[hG e];exact put2 (z.sel (G.app _) bN ((ao.resolve_left e).app _)) rfl rfl
 have l:=aF.resolve_left c;rw[hG c];by_cases e:q=-1
 ·rw[hI e];exact put2 (z.sel (G.app _) (l.app _) bN) rfl rfl
 rw[hG e];exact put1 (g.sel G l (ao.resolve_left e)) rfl rfl
end
section
variable{ins:List Int}{vs:List Vl}{i:Nat}{v:Vl}
theorem J7(g:GVal ins vs){p q}(F:Ln vs v.a v.len)(hb:Ln vs v.b v.len)(aF:p=-1\/Ln vs p v.len)(ao:q=-1\/Ln vs q v.len):xC ins vs v.len (yp v p q vs.length):=by
 have n:(4:Int)=2\/(4:Int)=3\/(4:Int)=4\/(4:Int)=5\/(4:Int)=7:=xab;unfold yp;by_cases c:p=-1
 ·rw[hI c];by_cases d:q=-1
  ·rw[hI d];exact Dg g
  rw[hG d];exact(put1 (g.two n F (ao.resolve_left d)) rfl rfl).o
 have l:=aF.resolve_left c;rw[hG c];have bG:=g.two n l hb;by_cases d:q=-1
 ·rw[hI d];exact(put1 bG rfl rfl).o
 rw[hG d];have u:=ao.resolve_left d;have aC:=bG.two n (F.app _) (u.app _);exact(put3 (aC.two (.inl rfl) ((iD _ _ rfl rfl).app _) (iD _ _ xac rfl)) rfl rfl).o
theorem cS.qcx(h:Zp:=by
 unfold yq;by_cases c:p=-1
 ·rw[hI c];by_cases d:q=-1
  ·rw[hI d];exact Dg g
  rw[hG d];have bG:=g.two n hi (ao.resolve_left d);have aC:=bG.two u (iD _ _ rfl rfl) (hb.app _);exact(put3 (aC.one (.inl rfl) (iD _ _ xac rfl)) rfl rfl).o
 have l:=aF.resolve_left c;rw[hG c];have bG:=g.two u l hb;by_cases d:q=-1
 ·rw[hI d];exact(put1 bG rfl rfl).o
 rw[hG d];have aC:=bG.two n (hi.app _) ((ao.resolve_left d).app _);have ay:=aC.two (p:=(vs.length+1:Nat)) u (iD _ _ xac rfl) ((hb.app _).app _);exact(PT (ay.two cc (((iD _ _ rfl rfl).app _).app _) (iD _ _ xac rfl)) rfl rfl).o):Zp:=h
open cS in
theorem J8(g:GVal ins vs){p q i}(hi:Ln vs i v.len)(hb:Ln vs v.b v.len)(aF:p=-1\/Ln vs p v.len)(ao:q=-1\/Ln vs q v.len):xC ins vs v.len (yq i v p q vs.length):=by
 exact qcw
theorem BM(hi:i<vs.length)(e:vs.getD i hK=v):Ln vs (i:Int) v.len:=⟨by omega,by omega,by grind⟩
theorem Nz(g:GVal ins vs)(hi:i<vs.length)(e:vs.getD i hK=v)(t:Nat->Int)(ht:∀q,q<cnt v.op->t q=-1\/Ln vs (t q) (jy vs (fld v q)))(hn:∀q,cnt v.op<=q->t q=-1):xC ins vs v.len (mvM (i:Int) v (t 0) (t 1) (t 2) vs.length):=by
 have ok:=g.1 i hi;have ah:1<=v.len/\v.len<=1000:=by rw[<-e];exact iq ok
 have ae:=BM hi e;unfold mvM;by_cases c0:t 0=-1/\t 1=-1/\t 2=-1
 ·rw[hI c0];exact Dg g
 rw[hG c0]
 have key2:v.op=2\/v.op=3\/v.op=4\/v.op=5\/v.op=7->Ln vs _ _/\Ln vs _ _/\(t 0=-1\/Ln vs _ _)/\(t 1=-1\/Ln vs _ _):=λax=>by
  obtain⟨ak,F,hb⟩:=Gl ok hi e ax
  have bH:=pR ok hi e (q:=0) xaa
  have f1:=pR ok hi e (q:=1) xaa
  have bf:=ht 0 xaa
  have aO:=ht 1 xaa
  rw[show fld v 0=v.a from rfl,F]at bH bf
  rw[show fld v 1=v.b from rfl,hb]at f1 aO
  exact⟨bH,f1,bf,aO⟩
 have key1:cnt v.op=1->Ln _ _ (jy _ v.a):=λak=>by
  have aO:=hn 1 xaa
  have aX:=hn 2 xaa
  exact(ht 0 xaa).resolve_left (λc=>c0 ⟨c,aO,aX⟩)
 by_cases U:v.op=2
 ·grind[J5]
 rw[hG U];by_cases h3:v.op=3
 ·grind[J6]
 rw[hG h3];by_cases a6:v.op=4
 ·grind[J7]
 rw[hG a6];by_cases bK:v.op=5
 ·grind[J8]
 rw[hG bK];by_cases bP:v.op=7
 ·rw[hI bP];obtain⟨bE,cd,am,an⟩:=key2 xaa;have bG:=g.two (.inr (.inl rfl)) bE cd;have h:=Gp bG (iD _ _ rfl rfl) (am.imp id (λh=>h.app _)) (an.imp id (λh=>h.app _));grind[Put,Put.o]
 rw[hG bP];by_cases R:v.op=8
 ·rw[hI R];obtain⟨ak,F,hb,ao⟩:=Gm ok e R;have bH:=pR ok hi e (q:=0) xaa;have aO:=ht 1 xaa;have aX:=ht 2 xaa;rw[show fld v 0=v.a from rfl,F]at bH;rw[show fld v 1=v.b from rfl,hb]at aO;rw[show fld v 2=v.c from rfl,ao]at aX;by_cases c:t 1=-1/\t 2=-1
  ·rw[hI c];exact Dg g
  rw[hG c];exact(Gp g bH aO aX).o
 rw[hG R];by_cases ay:v.op=13
 ·rw[hI ay];obtain⟨ak,F,ao⟩:=xD ok e (.inr ay);have k:=key1 ak;rw[F]at k;exact(put1 (g.two (.inr (.inr (.inl rfl))) k ae) rfl rfl).o
 rw[hG ay];rcases Gn ok e with ai|B
 ·grind[cnt]
 by_cases bm:v.op=6
 ·obtain⟨ak,F,ao⟩:=xD ok e (.inl bm);have k:=key1 ak;rw[F]at k;rw[bm,ao];exact(put1 (g.one (.inl rfl) k) rfl rfl).o
 by_cases ab:v.op=9
 ·obtain⟨ak,F,ao⟩:=Pf ok e ab;have k:=key1 ak;rw[ab,ao,F];exact(put1 (g.p9 k) rfl rfl).o
 by_cases af:v.op=10
 ·obtain⟨ak,F,ao⟩:=Lz ok e af;have k:=key1 ak;rw[F]at k;rw[af,ao];exact(put1 (g.p10 ah k) rfl rfl).o
 by_cases aj:v.op=11
 ·obtain⟨ak,F,ao⟩:=LB ok e aj;have k:=key1 ak;rw[aj,F];exact(put1 (g.p11 k ao) rfl rfl).o
 by_cases av:v.op=12
 ·obtain⟨ak,F,ao⟩:=LC ok e av;have k:=key1 ak;rw[F]at k;rw[av];exact(put1 (g.p12 ah k ao) rfl rfl).o
 grind[cnt]
theorem cT.qcx(h:Zp:=by
 have key2:v.op=2\/v.op=3\/v.op=4\/v.op=5\/v.op=7->Ln vs _ _/\Ln vs _ _/\jy _ (fld v k)=v.len/\k<2:=λax=>by
  obtain⟨ak,F,ad⟩:=Gl ok hi e ax
  have bH:=pR ok hi e (q:=0) xaa
  have f1:=pR ok hi e (q:=1) xaa
  rw[show fld v 0=v.a from rfl,F]at bH
  rw[show fld v 1=v.b from rfl,ad]at f1
  refine⟨bH,f1,?_,by omega⟩
  rcases (by omega:k=0\/k=1) with rfl|rfl
  ·exact F
  ·exact ad
 have key1:cnt v.op=1->fld v k=v.a:=λak=>by
  obtain rfl:k=0:=xaa
  rfl
 unfold nF;by_cases U:v.op=2
 ·grind[Gk]
 rw[hG U];by_cases h3:v.op=3
 ·rw[hI h3,(key2 xaa).2.2.1];by_cases c:k=0
  ·rw[hI c];exact Gk g G
  rw[hG c];exact put1 (g.one (.inl rfl) G) rfl rfl
 rw[hG h3];by_cases a6:v.op=4
 ·obtain⟨bE,cd,p,_⟩:=key2 xaa;rw[hI a6,p];by_cases c:k=0
  ·rw[hI c];exact put1 (g.two n G cd) rfl rfl
  rw[hG c];exact put1 (g.two n G bE) rfl rfl
 rw[hG a6];by_cases bK:v.op=5
 ·obtain⟨bE,cd,p,_⟩:=key2 xaa;rw[hI bK,p];by_cases c:k=0
  ·rw[hI c];exact put1 (g.two u G cd) rfl rfl
  rw[hG c];have bG:=g.two n G ae;have aC:=bG.two u (iD _ _ rfl rfl) (cd.app _);exact put3 (aC.one (.inl rfl) (iD _ _ xac rfl)) rfl rfl
 rw[hG bK];by_cases bm:v.op=6
 ·obtain⟨ak,F,_⟩:=xD ok e (.inl bm);rw[hI bm,key1 ak,F];exact put1 (g.one (.inl rfl) G) rfl rfl
 rw[hG bm];by_cases ay:v.op=13
 ·obtain⟨ak,F,_⟩:=xD ok e (.inr ay);rw[hI ay,key1 ak,F];exact put1 (g.two n G ae) rfl rfl
 rw[hG ay];by_cases R:v.op=8
 ·obtain⟨ak,F,y,ao⟩:=Gm ok e R;have bH:=pR ok hi e (q:=0) xaa;rw[show fld v 0=v.a from rfl,F]at bH;have H:k≠0:=λc=>by subst c;simp[pr,R]at hb
  have p:jy vs (fld v k)=v.len:=by
   rcases (by omega:k=1\/k=2) with rfl|rfl
   ·exact y
   exact ao
  rw[hI R,p];have z:=g.z ah;have bN:Ln (vs++[eK 1 v.len 0 0 0]) _ v.len:=iD _ _ rfl rfl;by_cases c:k=1
  ·rw[hI c];exact put2 (z.sel (bH.app _) (G.app _) bN) rfl rfl
  rw[hG c];exact put2 (z.sel (bH.app _) bN (G.app _)) rfl rfl
 rw[hG R];by_cases bP:v.op=7
 ·obtain⟨bE,cd,p,_⟩:=key2 xaa;rw[hI bP,p];have bG:=g.two cc bE cd;have bN:Ln (vs++[eK 3 v.len v.a v.b 0]) _ v.len:=iD _ _ rfl rfl;have aC:=bG.z ah;have bJ:Ln ((vs++[eK 3 v.len v.a v.b 0])++[eK 1 v.len 0 0 0]) ((vs.length+1:Nat):Int) v.len:=iD _ _ xac rfl;by_cases c:k=0
  ·rw[hI c];exact put3 (aC.sel (bN.app _) ((G.app _).app _) bJ) rfl rfl
  rw[hG c];exact put3 (aC.sel (bN.app _) bJ ((G.app _).app _)) rfl rfl
 rw[hG bP];have aD:cnt v.op=1->1<=jy vs _/\jy _ v.a<=1000:=λak=>g.len (pR ok hi e (q:=0) xaa);by_cases ab:v.op=9
 ·obtain⟨ak,F,_⟩:=Pf ok e ab;rw[hI ab,key1 ak];rw[F]at G;exact put1 (g.p10 (aD ak) G) rfl rfl
 rw[hG ab];by_cases af:v.op=10
 ·obtain⟨ak,F,_⟩:=Lz ok e af;rw[hI af,key1 ak,F];exact put1 (g.p9 G) rfl rfl
 rw[hG af];by_cases aj:v.op=11
 ·obtain⟨ak,F,ao⟩:=LB ok e aj;rw[hI aj,key1 ak];rw[F]at G;exact put1 (g.p12 (aD ak) G ao) rfl rfl
 rw[hG aj];rcases Gn ok e with ai|B
 ·grind[cnt]
 by_cases av:v.op=12
 ·obtain⟨ak,F,ao⟩:=LC ok e av;rw[key1 ak,F];exact put1 (g.p11 G ao) rfl rfl
 grind[cnt]):Zp:=h
open cT in
theorem J9(g:GVal ins vs)(hi:i<vs.length)(e:vs.getD i hK=v){k}(O:k<cnt v.op)(hb:pr v k=true){d}(G:Ln vs d v.len):Put ins vs (jy vs (fld v k)) (nF (i:Int) v (jy vs v.a) k d vs.length):=by
 have ok:=g.1 i hi;have ah:1<=v.len/\v.len<=1000:=by rw[<-e];exact iq ok
 have ae:=BM hi e;exact qcw
end
structure GIv(ins:List Int)(vs0:List Vl)(st:List Vl×List Int):Prop where
 g:GVal ins st.1
 p:Pre vs0 st.1
 l:st.2.length=vs0.length
 m:∀q,q<vs0.length->st.2.getD q 0=-1\/Ln st.1 (st.2.getD q 0) (jy vs0 (q:Int))
theorem jt(vs)(q:Nat):jy vs (q:Int)=(vs.getD q hK).len:=by unfold jy;grind
theorem tI(p:Pre vs0 us)(ai:0<=j)(B:j<(vs0.length:Int)):jy us j=jy vs0 j:=by
 unfold jy;rw[(p.at_ (j:=j.toNat) xaa).1]
theorem Dh(l:List Int)(i x)(h:i<l.length):(l.set i x).getD i 0=x:=by
 simp_all
theorem Di(l:List Int)(i q x)(h:i≠q):(l.set i x).getD q 0=l.getD q 0:=by
 simp_all
theorem GIv.put{ins vs0 st}(h:GIv ins vs0 st){i}(hi:i<vs0.length){M}(C:xC ins st.1 (jy vs0 (i:Int)) M):GIv ins vs0 (st.1++M.1,st.2.set i M.2):=by
 refine⟨C.1,h.p.app,by rw[List.length_set];exact h.l,λq ao=>?_⟩;by_cases c:i=q
 ·subst c;simp only;rw[Dh _ _ _ (hR h.l hi)];exact C.2
 simp only;rw[Di _ _ _ _ c];exact(h.m q ao).imp id (λx=>x.app _)
theorem vh(g:GVal ins (vs0++us))(ap:x<vs0.length){t}(ht:Ln (vs0++us) t (jy vs0 (x:Int))):GIv ins vs0 (vs0++us,(List.replicate vs0.length (-1)).set x t):=by
 refine⟨g,⟨_,rfl⟩,by grind,λq ao=>?_⟩;grind
theorem yZ{ins vs0}(g:GVal ins vs0){x t:Nat}(ht:Ln vs0 (t:Int) (jy vs0 (x:Int))):∀k,x+k<vs0.length->GIv ins vs0 (jst vs0 x t k)
 |0,O=>by
  have h:=vh (us:=[]) (ins:=ins) (vs0:=vs0) (x:=x) (t:=(t:Int)) (by simpa using g) xaa (by simpa using ht)
  rw[List.append_nil]at h
  exact h
 |k+1,O=>by
  have al:=yZ g ht k xaa
  have hi:x+1+k<vs0.length:=xaa
  have e:=(al.p.at_ hi).1
  have C:=Nz al.g (al.p.at_ hi).2 e (ovs (vs0.getD (x+1+k) hK) (jst vs0 x t k).2 (cnt (vs0.getD (x+1+k) hK).op)) (λq ao=>?_) (λq ao=>by unfold ovs;omega)
  ·rw[<-jt]at C
   exact al.put hi C
  ·have ax:=mG (g.1 _ hi) q ao
   unfold ovs
   rw[hI ao,tI al.p ax.1 xaa]
   have aw:=al.m (fld (vs0.getD (x+1+k) hK) q).toNat xaa
   grind
theorem nd(g:GVal ins vs){t:Nat}(ae:s<vs.length)(ap:x<vs.length)(ht:Ln vs (t:Int) (jy vs (x:Int))):GVal ins (jZ vs s x t).1/\Ln (jZ vs s x t).1 (jZ vs s x t).2 (jy vs (s:Int))/\Pre vs (jZ vs s x t).1:=by
 have h:=yZ g ht (s-x) xaa;have ah:=iq (g.1 s ae);unfold jZ;by_cases c:(jst vs x t (s-x)).2.getD s 0=-1
 ·rw[hI c];exact⟨h.g.z ah,iD _ _ rfl (jt _ _).symm,h.p.app⟩
 rw[hG c];exact⟨h.g,(h.m s ae).resolve_left c,h.p⟩
theorem Ka(g:GVal ins vs0){act i}(hi:i<vs0.length)(O:k<cnt (vs0.getD i hK).op){st}(h:GIv ins vs0 st)(G:st.2.getD i 0≠-1):GIv ins vs0 (gkM vs0 act i k st)/\(gkM vs0 act i k st).2.getD i 0=st.2.getD i 0:=by
 unfold gkM;by_cases c:act.getD (fld (vs0.getD i hK) k).toNat false=true/\pr (vs0.getD i hK) k=true
 ·rw[hI c];have ax:=mG (g.1 i hi) k O;have ai:=mG (g.1 i hi) 0 xaa;have e:=(h.p.at_ hi).1;have l:=(h.m i hi).resolve_left G;rw[jt]at l;have hP:=J9 h.g (h.p.at_ hi).2 e O c.2 l;rw[tI h.p ax.1 xaa,show jy st.1 _=laM _ i from tI h.p ai.1 (by have:(vs0.getD i _).a<i:=ai.2;omega)]at hP;generalize nF _ _ _ k _ _=M at hP;generalize ga:fld _ k=Z at ax hP;obtain⟨o,rfl⟩:=Int.eq_ofNat_of_zero_le ax.1;have gB:o<i:=xaa;rw[Int.toNat_natCast];unfold mK;simp only;by_cases d:st.2.getD o 0=-1
  ·rw[hI d];refine⟨h.put xaa hP.o,?_⟩;grind
  rw[hG d];have m:=((h.m o xaa).resolve_left d).app M.1;have aC:=hP.1.two (.inl rfl) m hP.2
  have U:xC ins st.1 (jy vs0 o) (M.1++[eK 2 (jy vs0 o) (st.2.getD o 0) M.2 0],((st.1++M.1).length:Int)):=by
   refine⟨by grind,.inr ?_⟩;simp only;rw[<-List.append_assoc];exact iD _ _ rfl rfl
  have h3:=h.put xaa U;grind[jt]
 grind
theorem vi{ins vs0}(g:GVal ins vs0){act i}(hi:i<vs0.length){st}(h:GIv ins vs0 st)(G:st.2.getD i 0≠-1):∀k,k<=cnt (vs0.getD i hK).op->GIv ins vs0 (ki vs0 act i st k)/\(ki vs0 act i st k).2.getD i 0=st.2.getD i 0
 |0,_=>⟨h,rfl⟩
 |k+1,O=>by
  obtain⟨B,U⟩:=vi g hi h G k xaa
  obtain⟨h3,a6⟩:=Ka g (act:=act) hi O B (hR U G)
  exact⟨h3,a6.trans U⟩
theorem y7{ins vs0}(g:GVal ins vs0){act s}(ae:s<vs0.length)(B:(vs0.getD s hK).len=1):∀j,GIv ins vs0 (gdn vs0 act s j)
 |0=>vh (g.p1 ⟨by decide,by decide⟩ xab) ae (iD _ _ rfl (by rw[jt,B]))
 |j+1=>by
  have al:=y7 (act:=act) g ae B j
  grind[giM,gdn,vi]
theorem y8(g:GVal ins vs)(ae:s<vs.length)(ap:x<vs.length)(B:(vs.getD s hK).len=1):GVal ins (grM vs s x).1/\Ln (grM vs s x).1 (grM vs s x).2 (jy vs (x:Int))/\Pre vs (grM vs s x).1:=by
 have ah:=iq (g.1 x ap);unfold grM;by_cases c:(jA vs x (s-x)).getD s false=true
 ·rw[hI c];unfold FQ;rw[tz _ _ _ _ _ yad];have h:=y7 (act:=jA vs x (s-x)) g ae B (s-x);unfold MY;by_cases d:(gdn vs (jA vs x (s-x)) s (s-x)).2.getD x 0=-1
  ·rw[hI d];exact⟨h.g.z ah,iD _ _ rfl (jt _ _).symm,h.p.app⟩
  rw[hG d];exact⟨h.g,(h.m x ap).resolve_left d,h.p⟩
 rw[hG c];exact⟨g.z ah,iD _ _ rfl (jt _ _).symm,⟨_,rfl⟩⟩
theorem Gd.v(g:Gd st):GVal st.ins st.vs:=⟨λi hi=>List.all_eq_true.1 g.ok i (List.mem_range.2 hi),g.k⟩
theorem Gd.with(g:Gd st)(h:GVal st.ins vs)(ah:kM vs=false):Gd {st with vs:=vs}:=by
 obtain⟨B,U⟩:=F6 ah;exact⟨B,U,List.all_eq_true.2 (λi hi=>h.1 i (List.mem_range.1 hi)),h.2,g.i,g.o,g.m⟩
structure Gw(st st':LSt):Prop where
 g:Gd st'
 n:st.vs.length<=st'.vs.length
 l:∀i,i<st.vs.length->fe st' i=fe st i
 i:st'.ins=st.ins
 o:st'.outs=st.outs
 m:st'.names=st.names
theorem Gw.refl(g:Gd st):Gw st st:=⟨g,yad,λ_ _=>rfl,rfl,rfl,rfl⟩
theorem Gw.trans{a c}(h:Gw a b)(k:Gw b c):Gw a c:=
 ⟨k.g,yan h.n k.n,λi hi=>(k.l i (yaj hi h.n)).trans (h.l i hi),k.i.trans h.i,k.o.trans h.o,k.m.trans h.m⟩
def RsG(st:LSt)(r:Rs (LSt×Nat)):Prop:=∀st' v,r=.ok (st',v)->Gw st st'/\v<st'.vs.length
theorem hY{f}:RsG st (.error f):=λ_ _ h=>by cases h
theorem Gq{v}(h:Gw st N)(aM:v<N.vs.length):RsG st (.ok (N,v)):=λ_ _ e=>by grind
theorem RsG.back{a}(h:Gw a b)(k:RsG b r):RsG a r:=λs v e=>⟨h.trans (k s v e).1,(k s v e).2⟩
theorem Gt(p:Pre st.vs vs){i}(hi:i<st.vs.length):fe {st with vs:=vs} i=fe st i:=by
 unfold fe;simp only;rw[(p.at_ hi).1]
theorem Gu(g:Gd st)(h:GVal st.ins vs)(ah:kM vs=false)(p:Pre st.vs vs):Gw st {st with vs:=vs}:=
 ⟨g.with h ah,by obtain⟨r,rfl⟩:=p;simp,λi hi=>Gt p hi,rfl,rfl,rfl⟩
theorem oE(g:Gd st){v}(h:GVal st.ins (st.vs++[v])){p j}(e:gh st v p=.ok (N,j)):Gw st N/\j<N.vs.length/\fe N j=v.len:=by
 unfold gh at e;cases ah:kM (st.vs++[v]) with
 |true=>grind
 |false=>
  rw[ah,hG xac]at e;cases e;have hn:=iD st.vs v rfl rfl;exact⟨Gu g h ah ⟨_,rfl⟩,by simp,by have:=hn.2.2;rw[Int.toNat_natCast]at this;exact this⟩
theorem kB(g:Gd st){v}(h:GVal st.ins (st.vs++[v]))(p):RsG st (gh st v p):=λ_ _ e=>⟨(oE g h e).1,(oE g h e).2.1⟩
theorem pS(g:Gd st){m n}(h:GVal st.ins m.1/\Ln m.1 m.2 n/\Pre st.vs m.1)(p):RsG st (iQ st m p):=by
 unfold iQ;cases ah:kM m.1 with
 |true=>rw[hI rfl];exact hY
 |false=>
  rw[hG xac];refine Gq (Gu g h.1 ah h.2.2) ?_;have:=h.2.1.1;have:=h.2.1.2.1;grind
theorem jV{i}(h:i<st.vs.length):Ln st.vs (i:Int) (fe st i):=⟨by omega,by omega,hU Int.toNat_natCast⟩
theorem rx(n p)(hn:1<=n/\n<=1000):∀(xs:List Nat) (st:LSt),Gd st->(∀i∈xs,i<st.vs.length/\(fe st i=n\/fe st i=1))->∀N aW,iL n p st xs=.ok (N,aW)->Gw st N/\aW.length=xs.length/\∀j∈aW,j<N.vs.length/\fe N j=n
 |[],st,g,_,N,aW,e=>by
  cases e<;>grind[Gw.refl]
 |i::r,st,g,ap,N,aW,e=>by
  have hi:=ap i (List.mem_cons_self ..)
  by_cases c:fe st i<n
  ·have B:fe st i=1:=xaa
   cases aF:gh st (eK 10 n (i:Int) 0 0) p with
   |error f=>rw[pC c aF]at e;cases e
   |ok x=>
    obtain⟨aq,j⟩:=x
    obtain⟨aG,ag,a8⟩:=oE g (g.v.p10 hn (by rw[<-B];exact jV hi.1)) aF
    rw[pB c aF]at e
    cases a9:iL n p aq r with
    |error f=>rw[a9]at e;cases e
    |ok y=>
     obtain⟨aN,ae⟩:=y
     rw[a9]at e
     cases e
     obtain⟨am,an,aJ⟩:=rx n p hn r _ aG.g (λq ao=>by
      have h:=ap q (List.mem_cons_of_mem _ ao)
      rw[aG.l q h.1]
      exact⟨yaj h.1 aG.n,h.2⟩) _ _ a9
     refine⟨aG.trans am,by simp[an],λq ao=>?_⟩
     rcases List.mem_cons.1 ao with rfl|ao
     ·exact⟨yaj ag am.n,(am.l q ag).trans a8⟩
     ·exact aJ q ao
  ·have B:fe st i=n:=xaa
   rw[oA c]at e
   cases a9:iL n p st r with
   |error f=>rw[a9]at e;cases e
   |ok y=>
    obtain⟨aN,ae⟩:=y
    rw[a9]at e
    cases e
    obtain⟨am,an,aJ⟩:=rx n p hn r _ g (λq ao=>ap q (List.mem_cons_of_mem _ ao)) _ _ a9
    refine⟨am,by simp[an],λq ao=>?_⟩
    rcases List.mem_cons.1 ao with rfl|ao
    ·exact⟨yaj hi.1 am.n,(am.l q hi.1).trans B⟩
    ·exact aJ q ao
theorem lI(g:Gd st)(xs p)(ap:∀i∈xs,i<st.vs.length)(e:kj st xs p=.ok (N,aW)):Gw st N/\aW.length=xs.length/\∃n,∀j∈aW,j<N.vs.length/\fe N j=n:=by
 unfold kj at e;by_cases c:xs.all (λi=>fe st i==pL st xs||fe st i==1)=true
 ·rw[hI c]at e;have hb:=xw g _ ap _ yad;rw[List.take_length]at hb;obtain⟨B,U,h3⟩:=rx _ p hb _ _ g (λi hi=>⟨ap i hi,by simp_all⟩) _ _ e;exact⟨B,U,_,h3⟩
 grind
theorem my(h:k<aW.length):aW.getD k 0∈aW:=by
 simp_all
theorem Gv(s):qF s=2\/qF s=3\/qF s=4\/qF s=5\/qF s=7:=by
 grind[qF]
theorem bY.qcg(h:Zp:=by
 have bN:=jV bH.1;have bJ:=jV f1.1;rw[f1.2,<-bH.2]at bJ;exact RsG.back B (kB B.g (B.g.v.two (Gv _) bN bJ) _)):Zp:=h
open bY in
theorem Kc(g:Gd st)(o){b}(F:a<st.vs.length)(hb:b<st.vs.length):RsG st (qG st o a b):=by
 unfold qG;cases a9:kj st [a,b] o.pos with
 |error f=>exact hY
 |ok x=>
  exact qcf
theorem bZ.qcg(h:Zp:=by
 have bN:=jV bH.1;have bJ:=jV f1.1;rw[f1.2,<-bH.2]at bJ;simp only;by_cases c:k.sym=Au
 ·rw[hI c];exact RsG.back B (kB B.g (B.g.v.two (.inr (.inr (.inr (.inr rfl)))) bN bJ) _)
 rw[hG c];cases aF:gh aN (eK 4 (fe aN (f.getD 0 0)) (f.getD 0 0:Nat) (f.getD 1 0:Nat) 0) k.pos with
 |error f=>exact hY
 |ok x=>
  obtain⟨bA,j⟩:=x;obtain⟨aG,ag,a8⟩:=oE B.g (B.g.v.two (.inr (.inr (.inl rfl))) bN bJ) aF;exact RsG.back (B.trans aG) (kB aG.g (aG.g.v.p9 (jV ag)) _)):Zp:=h
open bZ in
theorem Gx(g:Gd st)(k){b}(F:a<st.vs.length)(hb:b<st.vs.length):RsG st (qH st k a b):=by
 unfold qH;cases a9:kj st [a,b] k.pos with
 |error f=>exact hY
 |ok x=>
  exact qcf
theorem cA.qcg(h:Zp:=by
 have f2:=h3 _ (my (k:=2) (by rw[U];simp));have bN:=jV bH.1;have bJ:=jV f1.1;have b5:=jV f2.1;rw[f1.2,<-bH.2]at bJ;rw[f2.2,<-bH.2]at b5;exact RsG.back B (kB B.g (B.g.v.sel bN bJ b5) _)):Zp:=h
open cA in
theorem Kd(g:Gd st)(k){b c}(F:a<st.vs.length)(hb:b<st.vs.length)(ak:c<st.vs.length):RsG st (xq st k a b c):=by
 unfold xq;cases a9:kj st [a,b,c] k.pos with
 |error f=>exact hY
 |ok x=>
  exact qcf
theorem BN{l}(h:Dgs l):0<=iC l:=by
 have:=pN h yad;grind
theorem AN(g:Gd st)(k)(F:a<st.vs.length)(n)(aY:Dgs n.text):RsG st (mo st k a n):=by
 have ai:=BN aY;have P:=jV F;unfold mo;by_cases c:k.sym=qy
 ·rw[hI c];by_cases d:fe st a<=iC n.text
  ·rw[hI d];exact hY
  rw[hG d];exact kB g (g.v.p11 P ⟨ai,by omega⟩) _
 rw[hG c];by_cases d:fe st a≠1
 ·rw[hI d];exact hY
 rw[hG d];by_cases e:iC n.text<1\/1000<iC n.text
 ·rw[hI e];exact hY
 rw[hG e];rw[Decidable.not_not.1 d]at P;exact kB g (g.v.p10 ⟨by omega,by omega⟩ P) _
theorem AO(g:Gd st)(k)(F:a<st.vs.length)(i n)(aY:Dgs i.text):RsG st (mq st k a i n):=by
 have ai:=BN aY;have P:=jV F;unfold mq;by_cases d:fe st a≠1
 ·rw[hI d];exact hY
 rw[hG d];by_cases e:iC n.text<1\/1000<iC n.text
 ·rw[hI e];exact hY
 rw[hG e];by_cases q:iC n.text<=iC i.text
 ·rw[hI q];exact hY
 rw[hG q];rw[Decidable.not_not.1 d]at P;exact kB g (g.v.p12 ⟨by omega,by omega⟩ P ⟨ai,by omega⟩) _
theorem Gy(g:Gd st)(k)(F:a<st.vs.length)(ap:x<st.vs.length):RsG st (pA st k a x):=by
 unfold pA;by_cases d:fe st a≠1
 ·rw[hI d];exact hY
 rw[hG d];exact pS g (y8 g.v F ap (Decidable.not_not.1 d)) _
theorem Ke(g:Gd st)(k){d}(F:a<st.vs.length)(ap:x<st.vs.length)(G:d<st.vs.length):RsG st (pM st k a x d):=by
 have ca:=g.lenB ap;have cX:=jV G;unfold pM;by_cases c:fe st d=1/\1<fe st x
 ·rw[hI c];rw[c.1]at cX;cases aF:gh st (eK 10 (fe st x) (d:Int) 0 0) k.pos with
  |error f=>exact hY
  |ok y=>
   obtain⟨aN,d2⟩:=y;obtain⟨aG,ag,a8⟩:=oE g (g.v.p10 ca cX) aF;refine RsG.back aG (pS aG.g (nd aG.g.v (yaj F aG.n) (yaj ap aG.n) ?_) _);have b5:=jV ag;rw[a8]at b5;rw[jt];have:=aG.l x ap;rw[show(aN.vs.getD x _).len=fe _ x from rfl,this];exact b5
 rw[hG c];by_cases e:fe st d≠fe st x
 ·rw[hI e];exact hY
 rw[hG e];refine pS g (nd g.v F ap ?_) _;grind[jt,fe]
inductive EOK:Ex->Prop
 |num (t:Tok):EOK (.num t)
 |name (t:Tok):EOK (.name t)
 |neg (o:Tok) {e:Ex}:EOK e->EOK (.neg o e)
 |bin (o:Tok) {a b:Ex}:EOK a->EOK b->EOK (.bin o a b)
 |call (t:Tok) {es:List Ex}:(∀e∈es,EOK e)->EOK (.call t es)
 |key1 (k:Tok) {e:Ex}:EOK e->EOK (.key1 k e)
 |key2 (k:Tok) {a b:Ex}:EOK a->EOK b->EOK (.key2 k a b)
 |key3 (k:Tok) {a b c:Ex}:EOK a->EOK b->EOK c->EOK (.key3 k a b c)
 |keyN (k:Tok) {e:Ex}{n:Tok}:EOK e->Dgs n.text->EOK (.keyN k e n)
 |put (k:Tok) {e:Ex}{i n:Tok}:EOK e->Dgs i.text->Dgs n.text->EOK (.put k e i n)
 |grad (k:Tok) {e:Ex} (x:Tok):EOK e->EOK (.grad k e x)
 |jvp (k:Tok) {e d:Ex} (x:Tok):EOK e->EOK d->EOK (.jvp k e x d)
theorem jz{n es ts}(h:Pr n es ts):(∀t∈ts,t.sym=iE->Dgs t.text)->∀e∈es,EOK e:=by
 have one:∀{P:Ex->Prop}{x:Ex},P x->∀e∈[x],P e:=λh e ad=>by grind
 have l:∀{P:Ex->Prop}{x:Ex},(∀e∈[x],P e)->P x:=λh=>h _ (List.mem_singleton.2 rfl);induction h with
 |up01 _ al=>exact al
 |up12 _ al=>exact al
 |add _ _ _ g m=>exact λH=>one (.bin _ (l (g λt ht=>H t (by simp[ht]))) (l (m λt ht=>H t (by simp[ht]))))
 |mul _ _ _ g m=>exact λH=>one (.bin _ (l (g λt ht=>H t (by simp[ht]))) (l (m λt ht=>H t (by simp[ht]))))
 |neg _ _ al=>exact λH=>one (.neg _ (l (al λt ht=>H t (by simp[ht]))))
 |num _=>exact λ_=>one (.num _)
 |name _=>exact λ_=>one (.name _)
 |par _ _ _ al=>simp_all
 |call0 _ _ _=>exact λ_=>one (.call _ (λe ad=>by cases ad))
 |call _ _ _ _ al=>exact λH=>one (.call _ (al λt ht=>H t (by simp[ht])))
 |arg1 _ al=>exact al
 |argM _ _ _ g m=>grind
 |key1 _ _ _ _ al=>exact λH=>one (.key1 _ (l (al λt ht=>H t (by simp[ht]))))
 |key2 _ _ _ _ _ _ g m=>exact λH=>one (.key2 _ (l (g λt ht=>H t (by simp[ht]))) (l (m λt ht=>H t (by simp[ht]))))
 |key3 _ _ _ _ _ _ _ _ g m v=>exact λH=>one (.key3 _ (l (g λt ht=>H t (by simp[ht]))) (l (m λt ht=>H t (by simp[ht]))) (l (v λt ht=>H t (by simp[ht]))))
 |keyN _ _ _ _ hn _ al=>exact λH=>one (.keyN _ (l (al λt ht=>H t (by simp[ht]))) (H _ xac hn))
 |put _ _ _ _ hi _ hn _ al=>exact λH=>one (.put _ (l (al λt ht=>H t (by simp[ht]))) (H _ xac hi) (H _ xac hn))
 |grad _ _ _ _ _ _ al=>exact λH=>one (.grad _ _ (l (al λt ht=>H t (by simp[ht]))))
 |jvp _ _ _ _ _ _ _ _ g m=>exact λH=>one (.jvp _ _ (l (g λt ht=>H t (by simp[ht]))) (l (m λt ht=>H t (by simp[ht]))))
def BOK(n:Nat):Bdg->Prop
 |.val _ v=>v<n
 |.fn _ _ e=>EOK e
def NmOK(st:LSt):Prop:=∀b∈st.names,BOK st.vs.length b
theorem BOK.le{n m}(h:n<=m){b}(k:BOK n b):BOK m b:=by
 cases b with
 |val _ v=>exact yaj k h
 |fn _ _ _=>exact k
theorem NmOK.gw{a}(h:NmOK a)(w:Gw a b):NmOK b:=λx ap=>(h x (hS w.m ap)).le w.n
def LcOK(loc:Loc)(n:Nat):Prop:=∀b∈loc,b.2<n
theorem LcOK.le{u n m}(k:LcOK u n)(h:n<=m):LcOK u m:=λb hb=>yaj (k b hb) h
theorem oF(aw:NmOK st){u}(ah:LcOK u st.vs.length){t v}(e:fJ st u t=.ok v):v<st.vs.length:=by
 unfold fJ AJ at e;cases a9:u.find? (λb=>b.1==t.text) with
 |some b=>
  rw[a9]at e;simp only[Option.map_some]at e;cases e;exact ah b (List.mem_of_find?_eq_some a9)
 |none=>
  rw[a9]at e;simp only[Option.map_none]at e;unfold iX at e;cases hb:st.names.find? (λb=>b.nm==t.text) with
  |none=>grind
  |some b=>
   rw[hb]at e;have:=aw b (List.mem_of_find?_eq_some hb);cases b with
   |val _ v=>cases e;exact this
   |fn _ _ _=>cases e
theorem iA{r f}(B:∀q,r=some q->RsG st q)(U:∀s a,Gw st s->a<s.vs.length->∀q,f s a=some q->RsG s q):∀q,jH r f=some q->RsG st q:=λq e=>by
 unfold jH at e
 cases r with
 |none=>cases e
 |some x=>
  cases x with
  |error x=>grind
  |ok x=>
   obtain⟨s,a⟩:=x
   obtain⟨w,F⟩:=B _ rfl s a rfl
   exact RsG.back w (U s a w F q e)
theorem vl{aY g}:∀(es:List Ex) (st:LSt),Gw g st->(∀e∈es,∀s,Gw g s->∀q,aY s e=some q->RsG s q)->∀aN xs,gz aY st es=some (.ok (aN,xs))->Gw st aN/\xs.length=es.length/\∀x∈xs,x<aN.vs.length
 |[],st,aC,_,aN,xs,e=>by
  cases e
  exact⟨Gw.refl aC.g,rfl,λx ap=>by cases ap⟩
 |af::r,st,aC,co,aN,xs,e=>by
  unfold gz at e
  cases B:aY st af with
  |none=>grind
  |some q=>
   rw[B]at e
   cases q with
   |error f=>cases e
   |ok x=>
    obtain⟨aq,a⟩:=x
    obtain⟨w,F⟩:=co _ (List.mem_cons_self ..) _ aC _ B _ a rfl
    simp only at e
    cases U:gz aY aq r with
    |none=>grind
    |some q=>
     rw[U]at e
     cases q with
     |error f=>cases e
     |ok x=>
      obtain⟨bA,bc⟩:=x
      simp only at e
      cases e
      obtain⟨am,an,aJ⟩:=vl r _ (aC.trans w) (λe ad=>co e (List.mem_cons_of_mem _ ad)) _ _ U
      refine⟨w.trans am,by simp[an],λx ap=>?_⟩
      rcases List.mem_cons.1 ap with rfl|ap
      ·exact yaj F am.n
      grind
theorem iu{q}(h:RsG st r)(e:some r=some q):RsG st q:=by grind
theorem gF:∀(f:Nat) (st:LSt) (u:Loc) (e:Ex),Gd st->NmOK st->LcOK u st.vs.length->EOK e->∀r,eP f st u e=some r->RsG st r
 |0,_,_,_,_,_,_,_,r,h=>by cases h
 |f+1,st,u,e,g,aw,ah,ad,r,h=>by
  have al:∀{e:Ex},EOK e->∀{s:LSt},Gw _ s->∀q,eP f s _ e=some q->_:=λad s w q ao=>gF f s _ _ w.g (aw.gw w) (ah.le w.n) ad q ao
  cases ad with
  |num t=>
   rw[eP]at h
   exact iu (kB g (g.v.p1 ⟨by decide,by decide⟩ (oD _ _ _)) _) h
  |name t=>
   grind[eP,hY,Gq,Gw.refl,oF]
  |neg o ad=>
   rw[eP]at h
   exact iA (al ad (Gw.refl g)) (λs a w F q ao=>iu (kB w.g (w.g.v.one (.inl rfl) (jV F)) _) ao) r h
  |bin o F hb=>
   rw[eP]at h
   exact iA (al F (Gw.refl g)) (λs a w F=>iA (al hb w) (λaN b ag hb q ao=>iu (Kc ag.g _ (yaj F ag.n) hb) ao)) r h
  |call t cD=>
   rename_i es
   rw[eP]at h
   cases a9:iX st.names t.text with
   |none=>rw[a9]at h;exact iu hY h
   |some b=>
    rw[a9]at h
    cases b with
    |val _ _=>exact iu hY h
    |fn bJ aT aj=>
     simp only at h
     by_cases c:aT.length=es.length
     ·rw[hI c]at h
      cases F:gz (λs e=>eP f s u e) st es with
      |none=>grind
      |some q=>
       rw[F]at h
       cases q with
       |error q=>exact iu hY h
       |ok x=>
        obtain⟨aq,xs⟩:=x
        obtain⟨w,ag,a8⟩:=vl _ _ (Gw.refl g) (λe ad s w q ao=>al (cD e ad) w q ao) _ _ F
        simp only at h
        by_cases d:500<=aq.calls
        ·rw[hI d]at h;exact iu hY h
        ·rw[hG d]at h
         have bj:Gw _ {aq with calls:=aq.calls+1}:=⟨⟨w.g.n,w.g.c,w.g.ok,w.g.k,w.g.i,w.g.o,w.g.m⟩,w.n,w.l,w.i,w.o,w.m⟩
         have hb:EOK _:=aw _ (List.mem_of_find?_eq_some a9)
         exact RsG.back bj (gF f _ _ _ bj.g (aw.gw bj) (λb hb=>a8 _ (List.of_mem_zip (show(b.1,b.2)∈_ from hb)).2) hb r h)
     ·rw[hG c]at h;exact iu hY h
  |key1 k ad=>
   rw[eP]at h
   refine iA (al ad (Gw.refl g)) (λs a w F q ao=>iu ?_ ao) r h
   by_cases c:k.sym=yx
   ·rw[hI c];exact kB w.g (w.g.v.one (.inr rfl) (jV F)) _
   ·rw[hG c];exact kB w.g (w.g.v.p9 (jV F)) _
  |key2 k F hb=>
   rw[eP]at h
   exact iA (al F (Gw.refl g)) (λs a w F=>iA (al hb w) (λaN b ag hb q ao=>iu (Gx ag.g _ (yaj F ag.n) hb) ao)) r h
  |key3 k F hb ak=>
   rw[eP]at h
   exact iA (al F (Gw.refl g)) (λs a w F=>iA (al hb w) (λaN b ag hb=>iA (al ak (w.trans ag)) (λbA c a8 ak q ao=>iu (Kd a8.g _ (yaj F (yan ag.n a8.n)) (yaj hb a8.n) ak) ao))) r h
  |keyN k ad aY=>
   rw[eP]at h
   exact iA (al ad (Gw.refl g)) (λs a w F q ao=>iu (AN w.g _ F _ aY) ao) r h
  |put k ad aY aQ=>
   rw[eP]at h
   exact iA (al ad (Gw.refl g)) (λs a w F q ao=>iu (AO w.g _ F _ _ aY) ao) r h
  |grad k x ad=>
   rw[eP]at h
   cases aM:fJ st u x with
   |error q=>rw[aM]at h;exact iu hY h
   |ok v=>
    rw[aM]at h
    have ap:=oF aw ah aM
    exact iA (al ad (Gw.refl g)) (λs a w F q ao=>iu (Gy w.g _ F (yaj ap w.n)) ao) r h
  |jvp k x ad G=>
   rw[eP]at h
   cases aM:fJ st u x with
   |error q=>rw[aM]at h;exact iu hY h
   |ok v=>
    rw[aM]at h
    have ap:=oF aw ah aM
    exact iA (al ad (Gw.refl g)) (λs a w F=>iA (al G w) (λaN b ag hb q ao=>iu (Ke ag.g _ (yaj F ag.n) (yaj ap (yan w.n ag.n)) hb) ao)) r h
def Gz:List Tok->List Tok->Option Nat
 |_,[]=>none
 |seen,p::r=>if seen.any (λq=>q.text==p.text)=true then some p.pos else Gz (seen++[p]) r
def Kf(ns:List Bdg)(s:List UInt8):Nat:=ns.findIdx λb=>b.nm==s
def LSt.setV(st:LSt)(i:Nat)(s:List UInt8)(v:Nat):LSt:={st with names:=st.names.set i (.val s v)}
def nT(f:Nat)(e:Ex)(i:Nat)(s:List UInt8):Nat->LSt->Option (Rs LSt)
 |0,st=>some (.ok st)
 |k+1,st=>match eP f st [] e with
  |none=>none
  |some (.error q)=>some (.error q)
  |some (.ok (st1,v))=>nT f e i s k (st1.setV i s v)
def qK(s:List UInt8)(r:Rs (LSt×Nat)):Rs LSt:=match r with
 |.error q=>.error q
 |.ok (st,v)=>.ok {st with names:=st.names++[.val s v]}
def NA(r:Rs (LSt×Nat)):Rs LSt:=match r with
 |.error q=>.error q
 |.ok (st,v)=>.ok {st with outs:=st.outs++[(v:Int)]}
def inR(st:LSt)(n l:Tok):Rs LSt:=
 if iC l.text<1\/1000<iC l.text then .error (4,l.pos)
 else if 20<=st.ins.length then .error (5,n.pos)
 else qK n.text (gh {st with ins:=st.ins++[iC l.text]} (eK 0 (iC l.text) (st.ins.length:Int) 0 0) n.pos)
def GD(st:LSt)(n:Tok)(ps:List Tok)(e:Ex):Rs LSt:=match Gz [] ps with
 |some p=>.error (3,p)
 |none=>.ok {st with names:=st.names++[.fn n.text ps e]}
def pt(st:LSt)(n:Tok)(r:Option (Rs LSt)):Option (Rs LSt):=match iX st.names n.text with
 |some _=>some (.error (3,n.pos))
 |none=>r
def iO(f:Nat)(st:LSt):Sm->Option (Rs LSt)
 |.outS k e=>if 50<=st.outs.length then some (.error (5,k.pos))else (eP f st [] e).map NA
 |.rep i n e=>match iX st.names n.text with
  |some (.val _ _)=>if 100<iC i.text then some (.error (5,i.pos))else nT f e (Kf st.names n.text) n.text (iC i.text).toNat st
  |_=>some (.error (3,n.pos))
 |.defS n ps e=>pt st n (some (GD st n ps e))
 |.letS n e=>pt st n ((eP f st [] e).map (qK n.text))
 |.inS n l=>pt st n (some (inR st n l))
def oG(f:Nat):LSt->List Sm->Option (Rs LSt)
 |st,[]=>some (.ok st)
 |st,s::ss=>match iO f st s with
  |none=>none
  |some (.error q)=>some (.error q)
  |some (.ok st1)=>oG f st1 ss
theorem y9(s):mH s≠iE/\mH s≠kZ:=by
 unfold mH;split
 ·rename_i h;constructor
  ·rintro rfl;revert h;decide
  rintro rfl;revert h;decide
 exact⟨by decide,by decide⟩
theorem zd(x):lr x≠iE/\lr x≠kZ:=by
 grind[lr,iE,kZ]
theorem BO{i}(hi:i<t.length)(h:(nxT t i).sym=iE):∀k,k<(nxT t i).text.length->48<=bt (nxT t i).text k/\bt (nxT t i).text k<=57:=by
 unfold nxT at h⊢;split at h
 ·exact absurd h (y9 _).1
 split at h
 ·rename_i c1 c2;rw[hG c1,hI c2];simp only at h⊢;unfold sS at h;split at h
  ·exact absurd h xab
  rename_i c3;have e:rZ t i=gW dig t i:=by unfold rZ;grind
  rw[e];intro k O;rw[yu (lQ _ t i xaa)]at O;rw[Fx O];exact sR (yt i _ xaa xaa)
 exact absurd h (zd _).1
theorem ze(t i):∀K∈kU t i,K.sym=iE->∀k,k<K.text.length->48<=bt K.text k/\bt K.text k<=57:=by
 intro K aw ae;rw[kU]at aw;split at aw
 ·rename_i h;split at aw
  ·simp_all[BO]
  rcases List.mem_cons.1 aw with c|c
  ·subst c;exact BO h ae
  exact ze t _ _ c ae
 cases aw
termination_by t.length-i
decreasing_by
 grind[sT,pI]
theorem NB{l}(h:∀k,k<l.length->48<=bt l k/\bt l k<=57)(hn:kN l):Dgs l:=by
 refine⟨?_,h⟩
 have ak:(il l).countP dig=(il l).length:=by
  rw[List.countP_eq_length];intro x ap;unfold il at ap;obtain⟨b,hb,rfl⟩:=List.mem_map.1 ap;obtain⟨k,O,rfl⟩:=List.getElem_of_mem hb;have:=h k O;unfold bt at this;rw[yah,yal O]at this;simp only[Option.getD_some]at this;simp[dig];omega
 have U:=hn.2;rw[ak]at U;unfold il at U;grind
def isN(tk:Tok):Prop:=tk.sym=iE\/tk.sym=kZ
def GE(x:List UInt8)(c:Int):Prop:=(¬wL (il x)/\c=2)\/(wL (il x)/\15<(il x).countP dig/\c=5)
theorem zh{x}(h:RN (il x) f c):(kN x/\c=0)\/(GE x c/\c≠0):=by
 rcases h with⟨B,_,U⟩|⟨B,U,_,h3⟩|⟨B,U,_,_,h3⟩
 ·exact .inr ⟨.inl ⟨B,U⟩,by omega⟩
 ·exact .inr ⟨.inr ⟨B,U,h3⟩,by omega⟩
 exact .inl ⟨⟨B,U⟩,h3⟩
def LSt.zero:LSt:=⟨[],[],[],[],0⟩
theorem Kg:Gd LSt.zero:=⟨by decide,by decide,by decide,λv aM=>(by cases aM),by decide,by decide,by decide⟩
theorem Kh:NmOK LSt.zero:=λb hb=>by cases hb
theorem Dj{s aa r}(h:oG f st (s::aa)=some r):∃az,iO f st s=some az/\(∀q,az=.error q->r=.error q)/\(∀aq,az=.ok aq->oG f aq aa=some r):=by
 grind[oG]
def CM(st:LSt)(r:Rs (LSt×Nat)):Prop:=∀s x,r=.ok (s,x)->st.calls<=s.calls
theorem CM.err{q}:CM st (.error q):=λs x h=>by cases h
theorem CM.back{a}(h:a.calls<=b.calls)(k:CM b r):CM a r:=λs x e=>yan h (k s x e)
theorem li(st v p):CM st (gh st v p):=λs x h=>by
 grind[gh]
theorem xE(n p):∀(xs:List Nat) (st s:LSt) (aW:List Nat),iL n p st xs=.ok (s,aW)->st.calls<=s.calls
 |[],st,s,aW,h=>by grind[iL]
 |i::r,st,s,aW,h=>by
  rw[iL]at h
  split at h
  ·cases aF:gh st (eK 10 n (i:Int) 0 0) p with
   |error q=>grind
   |ok y=>
    obtain⟨aq,j⟩:=y
    rw[aF]at h
    simp only at h
    cases a9:iL n p aq r with
    |error q=>grind
    |ok y=>
     obtain⟨aN,e⟩:=y
     rw[a9]at h
     cases h
     exact yan (li _ _ p _ j aF) (xE n p r _ _ _ a9)
  ·cases a9:iL n p st r with
   |error q=>grind
   |ok y=>
    obtain⟨aN,e⟩:=y
    rw[a9]at h
    cases h
    exact xE n p r _ _ _ a9
theorem xF{s xs p}(h:kj st xs p=.ok (s,aW)):st.calls<=s.calls:=by
 unfold kj at h;split at h
 ·exact xE _ p _ _ s _ h
 cases h
theorem ry(st m p):CM st (iQ st m p):=λs x h=>by
 grind[iQ]
theorem ND(st o a b):CM st (qG st o a b):=by
 unfold qG;cases a9:kj st [a,b] o.pos with
 |error q=>exact .err
 |ok y=>exact CM.back (xF a9) (li _ _ _)
theorem Ki(st k a b):CM st (qH st k a b):=by
 unfold qH;cases a9:kj st [a,b] k.pos with
 |error q=>exact .err
 |ok y=>
  simp only;split
  ·exact CM.back (xF a9) (li _ _ _)
  cases aF:gh y.1 (eK 4 (fe y.1 (y.2.getD 0 0)) (y.2.getD 0 0:Nat) (y.2.getD 1 0:Nat) 0) k.pos with
  |error q=>exact .err
  |ok z=>exact CM.back (yan (xF a9) (li _ _ _ _ _ aF)) (li _ _ _)
theorem NF(st k a b c):CM st (xq st k a b c):=by
 unfold xq;cases a9:kj st [a,b,c] k.pos with
 |error q=>exact .err
 |ok y=>exact CM.back (xF a9) (li _ _ _)
theorem Dk(st k a n):CM st (mo st k a n):=by
 unfold mo;split
 ·split
  ·exact .err
  exact li _ _ _
 split
 ·exact .err
 split
 ·exact .err
 exact li _ _ _
theorem Dl(st k a i n):CM st (mq st k a i n):=by
 unfold mq;split
 ·exact .err
 split
 ·exact .err
 split
 ·exact .err
 exact li _ _ _
theorem Kj(st k a x):CM st (pA st k a x):=by
 unfold pA;split
 ·exact .err
 exact ry _ _ _
theorem NG(st k a x d):CM st (pM st k a x d):=by
 unfold pM;split
 ·cases aF:gh st (eK 10 (fe st x) (d:Int) 0 0) k.pos with
  |error q=>exact .err
  |ok y=>exact CM.back (li _ _ _ _ _ aF) (ry _ _ _)
 split
 ·exact .err
 exact ry _ _ _
theorem lB{a p}(B:∀r,a=some r->CM st r)(U:∀s x,∀r,p s x=some r->CM s r):∀r,jH a p=some r->CM st r:=λr h=>by
 cases F:a with
 |none=>rw[F]at h;cases h
 |some az=>
  rw[F]at h
  rcases az with q|⟨s,x⟩
  ·cases h;exact .err
  ·exact CM.back (B _ F s x rfl) (U s x r h)
theorem xG{p}(aF:∀s e r,p s e=some r->CM s r):∀(es:List Ex) (st s:LSt) (xs:List Nat),gz p st es=some (.ok (s,xs))->st.calls<=s.calls
 |[],st,s,xs,h=>by grind[gz]
 |e::es,st,s,xs,h=>by
  rw[gz]at h
  cases B:p st e with
  |none=>grind
  |some az=>
   rw[B]at h
   rcases az with aK|⟨aq,x⟩
   ·cases h
   ·simp only at h
    cases U:gz p aq es with
    |none=>grind
    |some aZ=>
     rw[U]at h
     rcases aZ with aP|⟨aN,bc⟩
     ·cases h
     ·cases h
      exact yan (aF _ e _ B _ x rfl) (xG aF _ _ s _ U)
theorem sp:∀(f:Nat) (st:LSt) (u:Loc) (e:Ex) (r:Rs (LSt×Nat)),eP f st u e=some r->CM st r
 |0,st,u,e,r,h=>by rw[eP]at h;cases h
 |f+1,st,u,e,r,h=>by
  have al:∀st u e r,eP f st u e=some r->_:=λst u e r h=>sp f _ _ e r h
  have g:∀{st:LSt}{a r:Rs _},CM st a->some a=some r->_:=λh e=>by cases e;exact h
  cases e with
  |num t=>rw[eP]at h;exact g (li _ _ _) h
  |name t=>
   rw[eP]at h
   cases aM:fJ st u t with
   |error q=>rw[aM]at h;exact g .err h
   |ok v=>rw[aM]at h;exact g (λs x e=>by cases e;exact yad) h
  |neg o a=>grind[eP,lB,li]
  |bin o a b=>rw[eP]at h;exact lB (λr h=>al _ _ _ r h) (λs x r h=>lB (λr h=>al _ _ _ r h) (λs x r h=>g (ND _ _ _ _) h) r h) r h
  |call t es=>
   rw[eP]at h
   cases a9:iX st.names t.text with
   |none=>rw[a9]at h;exact g .err h
   |some b=>
    rw[a9]at h
    cases b with
    |val _ _=>exact g .err h
    |fn bJ aT aj=>
     simp only at h
     by_cases c:aT.length=es.length
     ·rw[hI c]at h
      cases F:gz (λs e=>eP f s u e) st es with
      |none=>rw[F]at h;cases h
      |some q=>
       rw[F]at h
       rcases q with q|⟨aq,xs⟩
       ·exact g .err h
       ·have ak:=xG (λs e r h=>al s _ e r h) _ _ _ xs F
        simp only at h
        by_cases d:500<=aq.calls
        ·rw[hI d]at h;exact g .err h
        ·rw[hG d]at h
         exact CM.back (by show st.calls<=aq.calls+1;omega) (al _ _ _ r h)
     ·rw[hG c]at h;exact g .err h
  |key1 k a=>
   grind[eP,lB,li]
  |key2 k a b=>grind[eP,lB,Ki]
  |key3 k a b c=>grind[eP,lB,NF]
  |keyN k a n=>grind[eP,lB,Dk]
  |put k a i n=>rw[eP]at h;exact lB (λr h=>al _ _ _ r h) (λs x r h=>g (Dl _ _ _ _ _) h) r h
  |grad k a x=>
   rw[eP]at h
   cases aM:fJ st u x with
   |error q=>rw[aM]at h;exact g .err h
   |ok v=>rw[aM]at h;exact lB (λr h=>al _ _ _ r h) (λs x r h=>g (Kj _ _ _ _) h) r h
  |jvp k a x d=>
   rw[eP]at h
   cases aM:fJ st u x with
   |error q=>rw[aM]at h;exact g .err h
   |ok v=>grind[lB,NG]
def EvT{α:Type}(E:Nat->Option (Rs α)):Prop:=∃r f,∀g,f<=g->E g=some r
theorem EvT.const{B}(r:Rs B):EvT (λ_=>some r):=⟨r,0,λ_ _=>rfl⟩
theorem EvT.succ{B}{E F:Nat->Option (Rs B)}(h:∀g,E (g+1)=F g)(k:EvT F):EvT E:=by
 obtain⟨r,f,k⟩:=k;refine⟨r,f+1,λg aQ=>?_⟩;obtain⟨aA,rfl⟩:∃aA,g=aA+1:=⟨g-1,by omega⟩
 grind
theorem EvT.then{A}{p:Nat->LSt->Nat->Option (Rs (LSt×Nat))}(B:EvT A)(U:∀f s x,A f=some (.ok (s,x))->EvT (λg=>p g s x)):EvT (λg=>jH (A g) (p g)):=by
 obtain⟨az,f1,am⟩:=B;rcases az with q|⟨s,x⟩
 ·exact⟨_,_,λg aQ=>by dsimp only;rw[am g aQ];rfl⟩
 obtain⟨aZ,f2,an⟩:=U _ s x (am _ yad);exact⟨_,max f1 f2,λg aQ=>by dsimp only;rw[am g xaa];exact an g xaa⟩
theorem zi{p:Nat->LSt->Ex->Option (Rs (LSt×Nat))}(aF:∀g s e r,p g s e=some r->CM s r):∀(es:List Ex) (st:LSt),(∀e∈es,∀s,st.calls<=s.calls->EvT (λg=>p g s e))->EvT (λg=>gz (p g) st es)
 |[],st,_=>⟨.ok (st,[]),0,λg _=>by dsimp only;rw[gz]⟩
 |e::es,st,h=>by
  obtain⟨az,f1,am⟩:=h e xac _ yad
  dsimp only at am
  rcases az with q|⟨s,x⟩
  ·exact⟨.error q,f1,λg aQ=>by dsimp only;rw[gz,am g aQ]⟩
  ·have ae:=aF _ _ e _ (am _ yad) s x rfl
   obtain⟨aZ,f2,an⟩:=zi aF es s (λe ad z h'=>h e (by simp[ad]) _ (yan ae h'))
   dsimp only at an
   rcases aZ with q|⟨aN,xs⟩
   ·exact⟨.error q,max f1 f2,λg aQ=>by dsimp only;rw[gz,am g xaa];simp only;rw[an g xaa]⟩
   ·exact⟨.ok (aN,x::xs),max f1 f2,λg aQ=>by dsimp only;rw[gz,am g xaa];simp only;rw[an g xaa]⟩
theorem tJ:∀(k n:Nat) (e:Ex),SizeOf.sizeOf e<=n->∀(st:LSt) (u:Loc),501-st.calls<=k->EvT (λg=>eP g st u e)
 |k,0,e,hn,st,u,O=>by cases e<;>simp at hn
 |k,n+1,e,hn,st,u,O=>by
  have sub:∀(a:Ex),SizeOf.sizeOf a<=n->∀s,st.calls<=s.calls->EvT (λg=>eP g s u a):=λa F s ae=>tJ k n a F s u xaa
  have bd:∀{g:Nat}{a:Ex}{s z:LSt}{x:Nat},eP g s u a=some (.ok (z,x))->_:=λh=>sp _ _ _ _ _ h _ _ rfl
  cases e with
  |num t=>exact .succ (λg=>by rw[eP]) (.const _)
  |name t=>exact .succ (λg=>by rw[eP]) (.const _)
  |neg o a=>exact .succ (λg=>by rw[eP]) (.then (sub a (by simp at hn;omega) st yad) (λf s x h=>.const _))
  |bin o a b=>exact .succ (λg=>by rw[eP]) (.then (sub a (by simp at hn;omega) st yad) (λf s x h=>.then (sub b (by simp at hn;omega) s (bd h)) (λf s x h=>.const _)))
  |call t es=>
   refine .succ (λg=>by rw[eP]) ?_
   cases a9:iX st.names t.text with
   |none=>exact .const _
   |some b=>
    cases b with
    |val _ _=>exact .const _
    |fn bJ aT aj=>
     simp only
     by_cases c:aT.length=es.length
     ·simp only[hI c]
      obtain⟨R,f1,am⟩:=zi (p:=λg s e=>eP g s u e) (λg s e r h=>sp g s u e r h) es st (λe ad s ae=>sub e (by have:=List.sizeOf_lt_of_mem ad;simp at hn;omega) s ae)
      dsimp only at am
      rcases R with q|⟨aq,xs⟩
      ·exact⟨.error q,f1,λg aQ=>by dsimp only;rw[am g aQ]⟩
      ·have ae:=xG (p:=λs e=>eP f1 s u e) (λs e r h=>sp f1 s u e r h) es st aq xs (am f1 yad)
       by_cases d:500<=aq.calls
       ·exact⟨.error (5,t.pos),f1,λg aQ=>by dsimp only;rw[am g aQ];simp only;rw[hI d]⟩
       ·match k,O with
        |0,O=>omega
        |k+1,O=>
         obtain⟨aZ,f2,an⟩:=tJ k (SizeOf.sizeOf aj) aj yad {aq with calls:=aq.calls+1} ((aT.map (·.text)).zip xs) (by show 501-(aq.calls+1)<=k;omega)
         dsimp only at an
         exact⟨aZ,max f1 f2,λg aQ=>by dsimp only;rw[am g xaa];simp only;rw[hG d];exact an g xaa⟩
     ·simp only[hG c];exact .const _
  |key1 y a=>exact .succ (λg=>by rw[eP]) (.then (sub a (by simp at hn;omega) st yad) (λf s x h=>.const _))
  |key2 y a b=>exact .succ (λg=>by rw[eP]) (.then (sub a (by simp at hn;omega) st yad) (λf s x h=>.then (sub b (by simp at hn;omega) s (bd h)) (λf s x h=>.const _)))
  |key3 y a b c=>exact .succ (λg=>by rw[eP]) (.then (sub a (by simp at hn;omega) st yad) (λf s x h=>.then (sub b (by simp at hn;omega) s (bd h)) (λf aN x U=>.then (sub c (by simp at hn;omega) aN (yan (bd h) (bd U))) (λf s x h=>.const _))))
  |keyN y a m=>exact .succ (λg=>by rw[eP]) (.then (sub a (by simp at hn;omega) st yad) (λf s x h=>.const _))
  |put y a i m=>exact .succ (λg=>by rw[eP]) (.then (sub a (by simp at hn;omega) st yad) (λf s x h=>.const _))
  |grad y a x=>
   refine .succ (λg=>by rw[eP]) ?_
   cases fJ st u x with
   |error q=>exact .const _
   |ok v=>exact .then (sub a (by simp at hn;omega) st yad) (λf s x h=>.const _)
  |jvp y a x d=>
   refine .succ (λg=>by rw[eP]) ?_
   cases fJ st u x with
   |error q=>exact .const _
   |ok v=>exact .then (sub a (by simp at hn;omega) st yad) (λf s x h=>.then (sub d (by simp at hn;omega) s (bd h)) (λf s x h=>.const _))
termination_by k n=>(k,n)
theorem tK(st u e):EvT (λg=>eP g st u e):=tJ _ _ e yad st u yad
theorem BP(e i s):∀(k:Nat) (st:LSt),EvT (λg=>nT g e i s k st)
 |0,st=>⟨.ok st,0,λg _=>by dsimp only;rw[nT]⟩
 |k+1,st=>by
  obtain⟨az,f1,am⟩:=tK st [] e
  dsimp only at am
  rcases az with q|⟨aq,v⟩
  ·exact⟨.error q,f1,λg aQ=>by dsimp only;rw[nT,am g aQ]⟩
  ·obtain⟨aZ,f2,an⟩:=BP e i s k (aq.setV i s v)
   exact⟨aZ,max f1 f2,λg aQ=>by dsimp only;rw[nT,am g xaa];exact an g xaa⟩
theorem GF(st s):EvT (λg=>iO g st s):=by
 cases s with
 |outS k e=>
  simp only[iO];by_cases c:50<=st.outs.length
  ·simp only[hI c];exact .const _
  simp only[hG c];obtain⟨r,f,h⟩:=tK st [] e;dsimp only at h;exact⟨NA r,f,λg aQ=>by dsimp only;rw[h g aQ];rfl⟩
 |rep i n e=>
  simp only[iO];cases iX st.names n.text with
  |none=>exact .const _
  |some b=>
   cases b with
   |fn _ _ _=>exact .const _
   |val _ _=>
    simp only;by_cases c:100<iC i.text
    ·simp only[hI c];exact .const _
    simp only[hG c];exact BP _ _ _ _ _
 |defS n aT e=>simp only[iO,pt];cases iX st.names n.text<;>exact .const _
 |inS n l=>simp only[iO,pt];cases iX st.names n.text<;>exact .const _
 |letS n e=>
  simp only[iO,pt];cases iX st.names n.text with
  |some _=>exact .const _
  |none=>
   obtain⟨r,f,h⟩:=tK st [] e;dsimp only at h;exact⟨qK n.text r,f,λg aQ=>by dsimp only;rw[h g aQ];rfl⟩
theorem zj:∀(aa:List Sm) (st:LSt),EvT (λg=>oG g st aa)
 |[],st=>⟨.ok st,0,λg _=>by dsimp only;rw[oG]⟩
 |s::aa,st=>by
  obtain⟨az,f1,am⟩:=GF st s
  dsimp only at am
  rcases az with q|aq
  ·exact⟨.error q,f1,λg aQ=>by dsimp only;rw[oG,am g aQ]⟩
  ·obtain⟨aZ,f2,an⟩:=zj aa aq
   exact⟨aZ,max f1 f2,λg aQ=>by dsimp only;rw[oG,am g xaa];exact an g xaa⟩
theorem BQ{i}(k)(h:okV ins vs i=true):okV (ins++[k]) vs i=true:=by
 unfold okV at h⊢;by_cases c:(vs.getD i hK).op=0
 ·rw[hI c]at h⊢;simp only[Bool.and_eq_true]at h⊢;obtain⟨B,U,h3⟩:=h;unfold fN at U⊢;grind
 grind
theorem Kk(ins vs){k}(O:1<=k/\k<=1000):okV (ins++[k]) (vs++[eK 0 k (ins.length:Int) 0 0]) vs.length=true:=by
 have aM:(vs++[eK 0 k (ins.length:Int) 0 0]).getD vs.length hK=eK 0 k (ins.length:Int) 0 0:=by
  exact xgg
 unfold okV;rw[aM,hI (show(eK 0 k (ins.length:Int) 0 0).op=0 from rfl)];simp only[Bool.and_eq_true];refine⟨⟨?_,?_⟩,?_,?_⟩
 ·show lenB k=true;unfold lenB;exact decide_eq_true O
 ·simp[gC,cnt,iY]
 ·show fN (ins.length:Int) _=true;unfold fN;exact decide_eq_true ⟨by omega,by rw[yak];simp only[List.length_singleton];omega⟩
 show(k==(ins++[k]).getD ((ins.length:Int)).toNat 0)=true;rw[Int.toNat_natCast,yah,yar yad,Nat.sub_self];simp
theorem LD(g:Gd st)(k)(h:st.ins.length<20):Gd {st with ins:=st.ins++[k]}:=
 ⟨g.n,g.c,List.all_eq_true.2 (λi hi=>BQ k (List.all_eq_true.1 g.ok i hi)),g.k,by grind,g.o,g.m⟩
theorem LE(g:Gd st){k}(O:1<=k/\k<=1000):GVal (st.ins++[k]) (st.vs++[eK 0 k (st.ins.length:Int) 0 0]):=by
 refine⟨λi hi=>?_,tF g.k (by grind)⟩;rw[yak,List.length_singleton]at hi;by_cases c:i<st.vs.length
 ·exact qn c (BQ k (g.v.1 i c))
 grind[Kk]
def Pg:Sm->Prop
 |.inS _ l=>Dgs l.text
 |.letS _ e=>EOK e
 |.rep i _ e=>Dgs i.text/\EOK e
 |.defS _ _ e=>EOK e
 |.outS _ e=>EOK e
structure Sg(a b:LSt):Prop where
 g:Gd b
 nm:NmOK b
 n:a.vs.length<=b.vs.length
 m:b.names.length<=a.names.length+1
theorem BS(h:NmOK st){b}(hb:BOK st.vs.length b):NmOK {st with names:=st.names++[b]}:=λx ap=>by
 rcases List.mem_append.1 (show x∈st.names++[b] from ap) with c|c
 ·exact h x c
 simp_all
theorem BT(g:Gd st)(b)(h:st.names.length<5000):Gd {st with names:=st.names++[b]}:=
 ⟨g.n,g.c,g.ok,g.k,g.i,g.o,by grind⟩
theorem NH(g:Gd st)(v)(h:st.outs.length<50):Gd {st with outs:=st.outs++[v]}:=
 ⟨g.n,g.c,g.ok,g.k,g.i,by grind,g.m⟩
theorem vm{g s}(aw:st.names.length=g.names.length)(hn:g.vs.length<=st.vs.length)(bJ:NmOK st)(bK:g.names.length<5000)(av:RsG st r)(h:qK t r=.ok s):Sg g s:=by
 rcases r with q|⟨aq,v⟩
 ·cases h
 cases h;obtain⟨w,aM⟩:=av _ v rfl;exact⟨BT w.g _ (by rw[w.m,aw];exact bK),BS (bJ.gw w) aM,yan hn w.n,by show(aq.names++[_]).length<=_;rw[yak,w.m,aw];simp⟩
theorem zm{f e}(ad:EOK e)(i s):∀(k:Nat) (st z:LSt),Gd st->NmOK st->nT f e i s k st=some (.ok z)->Gd z/\NmOK z/\st.vs.length<=z.vs.length/\z.names.length=st.names.length
 |0,st,z,g,bJ,h=>by grind[nT]
 |k+1,st,z,g,bJ,h=>by
  rw[nT]at h
  cases B:eP f st [] e with
  |none=>grind
  |some az=>
   rw[B]at h
   rcases az with q|⟨aq,v⟩
   ·cases h
   ·obtain⟨w,aM⟩:=gF f _ _ e g bJ (λb hb=>by cases hb) ad _ B _ v rfl
    have aC:Gd (aq.setV i s v):=⟨w.g.n,w.g.c,w.g.ok,w.g.k,w.g.i,w.g.o,by show(aq.names.set i _).length<=5000;rw[List.length_set];exact w.g.m⟩
    have ab:NmOK (aq.setV i s v):=λb hb=>by
     rcases List.mem_or_eq_of_mem_set (show b∈aq.names.set i _ from hb) with c|c
     ·exact bJ.gw w b c
     ·subst c;exact aM
    obtain⟨am,an,aJ,b7⟩:=zm ad i s k _ _ aC ab h
    exact⟨am,an,yan w.n aJ,by rw[b7];show(aq.names.set i _).length=_;rw[List.length_set,w.m]⟩
theorem Dm{z s}(g:Gd st)(bJ:NmOK st)(bK:st.names.length<5000)(ae:Pg s)(h:iO f st s=some (.ok z)):Sg st z:=by
 cases s with
 |outS k e=>
  simp only[iO]at h;by_cases c:50<=st.outs.length
  ·grind
  rw[hG c]at h;cases B:eP f st [] e with
  |none=>grind
  |some az=>
   rw[B]at h;rcases az with q|⟨aq,v⟩
   ·cases h
   obtain⟨w,aM⟩:=gF f _ _ e g bJ (λb hb=>by cases hb) ae _ B _ v rfl;cases h;exact⟨NH w.g _ (hT w.o),(λb hb=>bJ.gw w b hb),w.n,by show aq.names.length<=_;rw[w.m];omega⟩
 |rep i n e=>
  simp only[iO]at h;split at h
  ·split at h
   ·cases h
   obtain⟨am,an,aJ,b7⟩:=zm ae.2 _ _ _ _ _ g bJ h;exact⟨am,an,aJ,by omega⟩
  cases h
 |defS n aT e=>
  simp only[iO,pt]at h;split at h
  ·cases h
  simp only[GD]at h;split at h
  ·cases h
  cases h;exact⟨BT g _ bK,BS bJ ae,yad,by simp_all⟩
 |letS n e=>
  simp only[iO,pt]at h;split at h
  ·cases h
  cases B:eP f st [] e with
  |none=>grind
  |some az=>
   rw[B]at h;exact vm rfl yad bJ bK (gF f _ _ e g bJ (λb hb=>by cases hb) ae _ B) (hJ h)
 |inS n l=>
  simp only[iO,pt]at h;split at h
  ·cases h
  simp only[inR]at h;split at h
  ·cases h
  split at h
  ·cases h
  rename_i c1 c2;have O:1<=iC l.text/\iC l.text<=1000:=xaa;exact vm (st:={st with ins:=st.ins++[iC _]}) rfl yad bJ bK (kB (LD g _ xaa) (LE g O) _) (hJ h)
end
section
attribute[local go_sem] eF eE eD
theorem Kl{W P}(bK:W.cell? ⟨P,5,none⟩=some (hF 0))(bm:W.cell? ⟨P,6,none⟩=some (hF 0))(fr:∀o,W.frozen? ⟨P,o,none⟩=false)(c)(p:Nat)(M)(C:M P):
  Calls prog 102 #[hD P,hF c,hF p] W λe W'=>e=.returned (hF (-1))/\Bad W P M c p W'/\∀o,o≠5->o≠6->W'.cell? ⟨P,o,none⟩=W.cell? ⟨P,o,none⟩:=by
 have q:=fr 5;have F:=fr 6;have R1:V (((W.setCell _ _).setCell ⟨P,6,_⟩ (hF p)).cell? _=some (hF c)):=(eN _ _ _ _ _ _ (.inr xaa)).trans (fR _ _ _ _ _ bK);have R2:V (((W.setCell ⟨P,5,_⟩ (hF c)).setCell _ (hF p)).cell? _=some _):=fR _ _ _ _ _ ((eN _ _ _ _ _ _ (.inr xaa)).trans bm);have R3:V _:=Chg.andThen ((eU W ⟨P,5,none⟩ (hF c) yac).chg1 C) ((eU _ ⟨P,6,none⟩ (hF p) yac).chg1 C);have aI:V (∀o,o≠5->o≠6->((W.setCell ⟨P,5,_⟩ (hF c)).setCell ⟨P,6,_⟩ (hF p)).cell? ⟨P,o,_⟩=W.cell? _):=λo B U=>(eN _ _ _ _ _ _ (.inr (λe=>U e.symm))).trans (eN _ _ _ _ _ _ (.inr (λe=>B e.symm)));clear fr C;go_enter func102,ntmps102;go_wp2;go_ret;exact⟨rfl,⟨R1.o,R2.o,R3.o⟩,aI.o⟩
theorem aB.qaw(h:Zp:=by
 go_region_law
  ((refine step_append_lies _ rfl _ _ _ rfl I 40 _ _ 6 _ underlying24 hi bn bQ br rfl xab _ _ _ (by simp[Act.eval]) (lX aU.o 1 _) _ 1 1 _ (by simp[Act.eval]) rfl (uC _ _ _) (Ai v) xab (by unfold maxLen;omega) xaa yaf _ rfl ?_;intro g9 cap9 be bv a6 b9 ck;have aW:=lF a6 aS HR.o.1 c1;have bH:=far2 a6 aS HR.o.1 cy;have aq:=lF a6 i HR.o.2 av;have aN:=lF a6 i HR.o.2 ba;have bA:=lF a6 i HR.o.2 bc;have cw:=lF a6 i HR.o.2 z;have cC:=lF a6 i HR.o.2 aa;have bE:=lF a6 i HR.o.2 ap))
 all_goals
  have S:=b9.imp id (λe=>Nat.le_of_eq e.symm)
  have Q:=(ez 0 0 aG (.cells #[hF v.op,hF v.len,hF v.a,hF v.b,hF v.c,.float .f64 v.k] 40)).trans (eL 0 0 _ 1)
  have l:be.ownsRow I 40 6 (hE g9 (bK+1) cap9) (bK+1) (fW (st.vs++[v])):=by rw[kD,mV];exact bv
  obtain⟨(o:V _),R⟩:=(a9.o.keep Q).vals (gX a6) (by rw[yak,bw.o];rfl) l S
  have a5:V _:=(H.o.keep Q).trans R
  clear R S Q bv l a6 b9 ck aW bH aq aN bA cw cC bE av ba bc z aa ap cy c1 aU a9 H
  generalize be.setCell ⟨P,1,_⟩ _=N at o a5⊢
  obtain⟨a1,bL,a2',bM,a3,cj,af,a0,aj,B⟩:=o.o.gs bN.o
  simp only at af aj B
  subst af aj
  have aL:V _:=AI _ _ _ _ _ bL _ bM _ cj _ _ _ B C.o
  have G:(st.vs++[v]).length=bK+1:=by rw[yak,bw.o];rfl
  have n:V _:=λW'=>je W' a1 a2' a3 st.ins.length bL (bK+1) bM st.outs.length cj xaa
  rw[G]at aL a0
  clear B
  have bd:=o.o.c0
  have aR:=o.o.c1
  have aV:=o.o.c2
  cases a0
  cases hb:kM (st.vs++[v])
  ·rw[hb]at aL aQ
   have u:V _:=aQ.o.trans (hG xac)
   have m:V (∀W',Kept 0 0 _ W'->W'.cell? _=some _/\W'.cell? _=some _/\W'.cell? _=some _):=λW' k=>⟨(o.o.keep k).c0,(o.o.keep k).c1,(o.o.keep k).c2⟩
   clear hb aQ
   go_wp2_with (first
    |(go_at_call 144;refine yai aL.o ?_;rintro e s ⟨rfl,f⟩;obtain⟨a7,aK,aP⟩:=m.o _ f)
    |(go_at_call 40;refine yai (n.o _) ?_;rintro e F ⟨rfl,j⟩))
   go_ret
   rw[u.o]
   exact⟨⟨by simp,_,_,_,_,(o.o.keep f).keep j,(a5.o.keep f).keep j⟩,((o.o.keep f).keep j).c0⟩
  ·rw[hb]at aL aQ
   have u:V _:=aQ.o.trans (hI rfl)
   have bT:V (∀W',Kept 0 0 _ W'->_):=λW' k=>Kl (o.o.keep k).c5 (o.o.keep k).c6 (o.o.keep k).fr 5 p (Mst P (.slice a1 st.ins.length bL) (hE g9 (bK+1) cap9) (.slice a3 st.outs.length cj) u4) (.inl rfl)
   clear hb aQ
   go_wp2_with (first
    |(go_at_call 144;refine yai aL.o ?_;rintro e s ⟨rfl,f⟩)
    |(go_at_call 102;refine yai (bT.o _ f) ?_;rintro e F ⟨rfl,aI,w⟩))
   go_ret
   rw[u.o]
   exact⟨⟨rfl,aI.c5,aI.c6,(a5.o.keep f).bad aI.chg⟩,(w 0 xab xab).trans (o.o.keep f).c0⟩):Zp:=h
open aB in
theorem NJ{W P I u1 u2 u3 u4 bs st}(h:WS W P I u1 u2 u3 u4 bs st)(g:Gd st)(v)(aM:1<=v.len/\v.len<=1000)(ad:v.k<18446744073709551616)(p:Nat):
  Calls prog 106 #[hD P,v.agg,hF p] W (λe W'=>TrO W P I u1 u2 u3 u4 bs (gh st v p) e W'/\W'.cell? ⟨P,0,none⟩=some u1):=by
 exact qav
