import Derived.Test.YtkjahdegnkmejaaGreatP33
import Derived.Test.YtkjahdegnkmejaaGreatP28
namespace Go.Proofs.Z
variable{Zp:Prop}
open Tryz Go.RowKit Flt
set_option maxRecDepth 1000000
set_option maxHeartbeats 0
section
variable{ins:List Int}{st b R:LSt}{f a s x k:Nat}{vs0 vs us:List Vl}{j op c q:Int}{aU:List Nat}{t:List UInt8}{r:Rs (LSt×Nat)}
def GVal(ins:List Int)(vs:List Vl):Prop:=(∀i,i<vs.length->okV ins vs i=true)/\∀v∈vs,v.k<18446744073709551616
def Ln(vs:List Vl)(j n:Int):Prop:=0<=j/\j<(vs.length:Int)/\(vs.getD j.toNat i0).len=n
theorem Ln.app{n}(h:Ln vs j n)(us):Ln (vs++us) j n:=by
 obtain⟨B,N,h3⟩:=h;refine⟨B,by grind,?_⟩;grind
theorem ij(vs v){n}(hj:j=(vs.length:Int))(aL:v.len=n):Ln (vs++[v]) j n:=by
 subst hj;refine⟨by omega,by grind,?_⟩;simp_all
theorem GVal.len(g:GVal ins vs){n}(h:Ln vs j n):1<=n/\n<=1000:=by
 obtain⟨B,N,h3⟩:=h;have:=fV (g.1 j.toNat xaa);omega
theorem GVal.push(g:GVal ins vs)(v)(aj:v.op≠0)(ag:1<=v.len/\v.len<=1000)(J:v.k<18446744073709551616)(aw:fL v=true)(aR:∀o∈fp v,0<=o/\o<(vs.length:Int))(d:eV v.op v.len v.c ((fp v).map λo=>(vs.getD o.toNat i0).len)=true):GVal ins (vs++[v]):=by
 refine⟨λi hi=>?_,tK g.2 J⟩;rw[yal,List.length_singleton]at hi;by_cases c:i<vs.length
 ·exact rS c (g.1 i c)
 grind[xv]
theorem GVal.p1(g:GVal ins vs){n}(hn:1<=n/\n<=1000)(J:k<18446744073709551616):GVal ins (vs++[⟨1,n,0,0,0,k⟩]):=
 g.push _ (by grind) hn J (by simp[fL,cnt,gH]) (by intro o h;simp[fp,cnt]at h) (by simp[fp,cnt,eV])
theorem GVal.z(g:GVal ins vs){n}(hn:1<=n/\n<=1000):GVal ins (vs++[eK 1 n 0 0 0]):=g.p1 hn xab
theorem GVal.two(g:GVal ins vs){n p}(aR:op=2\/op=3\/op=4\/op=5\/op=7)(aA:Ln vs p n)(am:Ln vs q n):GVal ins (vs++[eK op n p q 0]):=by
 have hn:=g.len aA;obtain⟨bn,p2,bb⟩:=aA;rw[yai]at bb;obtain⟨ax,aF,bv⟩:=am;rw[yai]at bv;refine g.push _ (by grind) hn (by grind) ?_ ?_ ?_
 ·rcases aR with rfl|rfl|rfl|rfl|rfl<;>grind[fL,cnt]
 ·grind[fp]
 rcases aR with rfl|rfl|rfl|rfl|rfl<;>grind[fp,cnt,eV]
theorem GVal.one(g:GVal ins vs){n p}(aR:op=6\/op=13)(aA:Ln vs p n):GVal ins (vs++[eK op n p 0 0]):=by
 have hn:=g.len aA;obtain⟨bn,p2,bb⟩:=aA;rw[yai]at bb;refine g.push _ (by grind) hn (by grind) ?_ ?_ ?_
 ·grind[fL,cnt]
 ·grind[fp]
 rcases aR with rfl|rfl<;>simp[fp,cnt,eV,bb]
theorem GVal.sel(g:GVal ins vs){n d p}(aN:Ln vs d n)(aA:Ln vs p n)(am:Ln vs q n):GVal ins (vs++[eK 8 n d p q]):=by
 have hn:=g.len aA;obtain⟨aX,bk,ab⟩:=aN;rw[yai]at ab;obtain⟨bn,p2,bb⟩:=aA;rw[yai]at bb;obtain⟨ax,aF,bv⟩:=am;rw[yai]at bv;refine g.push _ (by grind) hn (by grind) ?_ ?_ ?_
 ·simp[fL,cnt,gH]
 ·grind[fp]
 simp[fp,cnt,eV,ab,bb,bv]
theorem GVal.p9(g:GVal ins vs){l p}(aA:Ln vs p l):GVal ins (vs++[eK 9 1 p 0 0]):=by
 have hn:=g.len aA;obtain⟨bn,p2,bb⟩:=aA;rw[yai]at bb;refine g.push _ (by grind) ⟨by grind,by grind⟩ (by grind) ?_ ?_ ?_
 ·simp[fL,cnt,gH]
 ·grind[fp]
 simp[fp,cnt,eV,bb,lenB,hn]
theorem GVal.p10(g:GVal ins vs){n p}(hn:1<=n/\n<=1000)(aA:Ln vs p 1):GVal ins (vs++[eK 10 n p 0 0]):=by
 obtain⟨bn,p2,bb⟩:=aA;rw[yai]at bb;refine g.push _ (by grind) hn (by grind) ?_ ?_ ?_
 ·simp[fL,cnt,gH]
 ·grind[fp]
 simp[fp,cnt,eV,bb]
theorem GVal.p11(g:GVal ins vs){l p}(aA:Ln vs p l)(ai:0<=c/\c<l):GVal ins (vs++[eK 11 1 p 0 c]):=by
 have hn:=g.len aA;obtain⟨bn,p2,bb⟩:=aA;rw[yai]at bb;refine g.push _ (by grind) ⟨by grind,by grind⟩ (by grind) ?_ ?_ ?_
 ·simp[fL,cnt,gH]
 ·grind[fp,cnt]
 grind[fp,cnt,eV,lenB,gn]
theorem GVal.p12(g:GVal ins vs){n p}(hn:1<=n/\n<=1000)(aA:Ln vs p 1)(ai:0<=c/\c<n):GVal ins (vs++[eK 12 n p 0 c]):=by
 obtain⟨bn,p2,bb⟩:=aA;rw[yai]at bb;refine g.push _ (by grind) hn (by grind) ?_ ?_ ?_
 ·simp[fL,cnt,gH]
 ·grind[fp,cnt]
 simp[fp,cnt,eV,bb,gn,ai]
def Put(ins:List Int)(vs:List Vl)(n:Int)(M:List Vl×Int):Prop:=GVal ins (vs++M.1)/\Ln (vs++M.1) M.2 n
def xz(ins:List Int)(vs:List Vl)(n:Int)(M:List Vl×Int):Prop:=GVal ins (vs++M.1)/\(M.2=-1\/Ln (vs++M.1) M.2 n)
theorem Put.o{n M}(h:Put ins vs n M):xz ins vs n M:=⟨h.1,.inr h.2⟩
section
variable{ins:List Int}{vs:List Vl}{n r:Int}
theorem put0(g:GVal ins vs)(h:Ln vs r n):Put ins vs n ([],r):=⟨by simpa using g,by simpa using h⟩
theorem C4(g:GVal ins vs):xz ins vs n ([],-1):=⟨by simpa using g,.inl rfl⟩
theorem put1{a}(g:GVal ins (vs++[a]))(h:a.len=n)(au:r=(vs.length:Int)):Put ins vs n ([a],r):=⟨g,ij vs a au h⟩
theorem put2{a b}(g:GVal ins ((vs++[a])++[b]))(h:b.len=n)(au:r=((vs.length+1:Nat):Int)):Put ins vs n ([a,b],r):=by
 have N:=ij (vs++[a]) b (j:=r) (by grind) h;rw[List.append_assoc]at g N;exact⟨g,N⟩
theorem put3{a b c}(g:GVal ins (((vs++[a])++[b])++[c]))(h:c.len=n)(au:r=((vs.length+2:Nat):Int)):Put ins vs n ([a,b,c],r):=by
 have N:=ij ((vs++[a])++[b]) c (j:=r) (by rw[au];simp) h;simp only[List.append_assoc]at g N;exact⟨g,N⟩
theorem Qe{a b c d}(g:GVal ins ((((vs++[a])++[b])++[c])++[d]))(h:d.len=n)(au:r=((vs.length+3:Nat):Int)):Put ins vs n ([a,b,c,d],r):=by
 have N:=ij (((vs++[a])++[b])++[c]) d (j:=r) (by rw[au];simp) h;simp only[List.append_assoc]at g N;exact⟨g,N⟩
end
def je(vs:List Vl)(j:Int):Int:=(vs.getD j.toNat i0).len
section
variable{ins:List Int}{vs:List Vl}{i:Nat}{v:Vl}
theorem lj(ok:okV ins vs i=true)(e:vs.getD i i0=v)(aj:v.op≠0):eV v.op v.len v.c ((fp v).map λo=>je vs o)=true/\fL v=true:=by
 unfold okV at ok;rw[e,ip aj,Bool.and_eq_true,Bool.and_eq_true,Bool.and_eq_true]at ok;exact⟨ok.2.2,ok.1.2⟩
theorem pF(ok:okV ins vs i=true)(hi:i<vs.length)(e:vs.getD i i0=v){q}(am:q<cnt v.op):Ln vs (fld v q) (je vs (fld v q)):=by
 have h:=ml ok q (by grind);rw[e]at h;exact⟨h.1,by omega,rfl⟩
theorem Ga(ok:okV ins vs i=true)(_hi:i<vs.length)(e:vs.getD i i0=v)(aR:v.op=2\/v.op=3\/v.op=4\/v.op=5\/v.op=7):cnt v.op=2/\je vs v.a=v.len/\je vs v.b=v.len:=by
 have h:=(lj ok e xaa).1;have ai:cnt v.op=2:=by rcases aR with c|c|c|c|c<;>(rw[c];rfl)
 grind[fp,eV]
theorem xA(ok:okV ins vs i=true)(e:vs.getD i i0=v)(aR:v.op=6\/v.op=13):cnt v.op=1/\je vs v.a=v.len/\v.c=0:=by
 grind[lj,cnt,gH,fp,eV,fL]
theorem Gb(ok:okV ins vs i=true)(e:vs.getD i i0=v)(aR:v.op=8):cnt v.op=3/\je vs v.a=v.len/\je vs v.b=v.len/\je vs v.c=v.len:=by
 grind[lj,cnt,fp,eV]
theorem Pm(ok:okV ins vs i=true)(e:vs.getD i i0=v)(aR:v.op=9):cnt v.op=1/\v.len=1/\v.c=0:=by
 obtain⟨h,aw⟩:=lj ok e xaa;grind[cnt,gH,eV,fL]
theorem LY(ok:okV ins vs i=true)(e:vs.getD i i0=v)(aR:v.op=10):cnt v.op=1/\je vs v.a=1/\v.c=0:=by
 grind[lj,cnt,gH,fp,eV,fL]
theorem LZ(ok:okV ins vs i=true)(e:vs.getD i i0=v)(aR:v.op=11):cnt v.op=1/\v.len=1/\0<=v.c/\v.c<je vs v.a:=by
 grind[lj,cnt,fp,eV,gn]
theorem L4(ok:okV ins vs i=true)(e:vs.getD i i0=v)(aR:v.op=12):cnt v.op=1/\je vs v.a=1/\0<=v.c/\v.c<v.len:=by
 grind[lj,cnt,fp,eV,gn]
theorem Gc(ok:okV ins vs i=true)(e:vs.getD i i0=v):v.op=0\/(1<=v.op/\v.op<=13):=by
 by_cases aj:v.op=0
 ·exact .inl aj
 have h:=(lj ok e aj).1;grind[eV]
theorem J4(g:GVal ins vs){n p q}(aA:p=-1\/Ln vs p n)(am:q=-1\/Ln vs q n):xz ins vs n (yC n p q vs.length):=by
 unfold yC;by_cases c:p=-1
 ·rw[iv c];rcases am with rfl|am
  ·exact C4 g
  exact(put0 g am).o
 have an:=aA.resolve_left c;rw[ip c];by_cases d:q=-1
 ·rw[iv d];exact(put0 g an).o
 rw[ip d];exact(put1 (g.two (.inl rfl) an (am.resolve_left d)) rfl rfl).o
theorem J5(g:GVal ins vs){n p q}(aA:p=-1\/Ln vs p n)(am:q=-1\/Ln vs q n):xz ins vs n (yD n p q vs.length):=by
 unfold yD;by_cases d:q=-1
 ·rw[iv d];rcases aA with rfl|aA
  ·exact C4 g
  exact(put0 g aA).o
 have l:=am.resolve_left d;rw[ip d];by_cases c:p=-1
 ·rw[iv c];exact(put1 (g.one (.inl rfl) l) rfl rfl).o
 rw[ip c];exact(put1 (g.two (.inr (.inl rfl)) (aA.resolve_left c) l) rfl rfl).o
theorem Ge(g:GVal ins vs){n d p q}(aN:Ln vs d n)(aA:p=-1\/Ln vs p n)(am:q=-1\/Ln vs q n):Put ins vs n (chM n d p q vs.length):=by
 have hn:=g.len aN;have z:=g.z hn;have a5:Ln (vs++[eK 1 n 0 0 0]) _ n:=ij _ _ rfl rfl;unfold chM;by_cases c:p=-1
 ·rw[iv c];by_cases e:q=-1
  ·rw[iv e];exact put3 ((z.z hn).sel ((aN.app _).app _) (a5.app _) (ij _ _ xac rfl)) rfl rfl
  rw[ip e];exact put2 (z.sel (aN.app _) a5 ((am.resolve_left e).app _)) rfl rfl
 have an:=aA.resolve_left c;rw[ip c];by_cases e:q=-1
 ·rw[iv e];exact put2 (z.sel (aN.app _) (an.app _) a5) rfl rfl
 rw[ip e];exact put1 (g.sel aN an (am.resolve_left e)) rfl rfl
end
section
variable{ins:List Int}{vs:List Vl}{i:Nat}{v:Vl}
theorem J6(g:GVal ins vs){p q}(aB:Ln vs v.a v.len)(hb:Ln vs v.b v.len)(aA:p=-1\/Ln vs p v.len)(am:q=-1\/Ln vs q v.len):xz ins vs v.len (yE v p q vs.length):=by
 have C:(4:Int)=2\/(4:Int)=3\/(4:Int)=4\/(4:Int)=5\/(4:Int)=7:=xab;unfold yE;by_cases c:p=-1
 ·rw[iv c];by_cases d:q=-1
  ·rw[iv d];exact C4 g
  rw[ip d];exact(put1 (g.two C aB (am.resolve_left d)) rfl rfl).o
 have an:=aA.resolve_left c;rw[ip c];have ca:=g.two C an hb;by_cases d:q=-1
 ·rw[iv d];exact(put1 ca rfl rfl).o
 rw[ip d];have l:=am.resolve_left d;have a2:=ca.two C (aB.app _) (l.app _);exact(put3 (a2.two (.inl rfl) ((ij _ _ rfl rfl).app _) (ij _ _ xac rfl)) rfl rfl).o
theorem cC.qck(h:Zp:=by
 unfold yG;by_cases c:p=-1
 ·rw[iv c];by_cases d:q=-1
  ·rw[iv d];exact C4 g
  rw[ip d];have ca:=g.two C hi (am.resolve_left d);have a2:=ca.two dg (ij _ _ rfl rfl) (hb.app _);exact(put3 (a2.one (.inl rfl) (ij _ _ xac rfl)) rfl rfl).o
 have an:=aA.resolve_left c;rw[ip c];have ca:=g.two dg an hb;by_cases d:q=-1
 ·rw[iv d];exact(put1 ca rfl rfl).o
 rw[ip d];have a2:=ca.two C (hi.app _) ((am.resolve_left d).app _);have aB:=a2.two (p:=(vs.length+1:Nat)) dg (ij _ _ xac rfl) ((hb.app _).app _);exact(Qe (aB.two Z (((ij _ _ rfl rfl).app _).app _) (ij _ _ xac rfl)) rfl rfl).o):Zp:=h
open cC in
theorem J7(g:GVal ins vs){p q i}(hi:Ln vs i v.len)(hb:Ln vs v.b v.len)(aA:p=-1\/Ln vs p v.len)(am:q=-1\/Ln vs q v.len):xz ins vs v.len (yG i v p q vs.length):=by
 exact qcj
theorem BJ(hi:i<vs.length)(e:vs.getD i i0=v):Ln vs (i:Int) v.len:=⟨by omega,by omega,by grind⟩
theorem NG(g:GVal ins vs)(hi:i<vs.length)(e:vs.getD i i0=v)(t:Nat->Int)(ht:∀q,q<cnt v.op->t q=-1\/Ln vs (t q) (je vs (fld v q)))(hn:∀q,cnt v.op<=q->t q=-1):xz ins vs v.len (mvM (i:Int) v (t 0) (t 1) (t 2) vs.length):=by
 have ok:=g.1 i hi;have ag:1<=v.len/\v.len<=1000:=by rw[<-e];exact fV ok
 have aw:=BJ hi e;unfold mvM;by_cases c0:t 0=-1/\t 1=-1/\t 2=-1
 ·rw[iv c0];exact C4 g
 rw[ip c0]
 have key2:v.op=2\/v.op=3\/v.op=4\/v.op=5\/v.op=7->Ln vs _ _/\Ln vs _ _/\(t 0=-1\/Ln vs _ _)/\(t 1=-1\/Ln vs _ _):=λaR=>by
  obtain⟨ai,aB,hb⟩:=Ga ok hi e aR
  have bT:=pF ok hi e (q:=0) xaa
  have f1:=pF ok hi e (q:=1) xaa
  have bm:=ht 0 xaa
  have aW:=ht 1 xaa
  rw[show fld v 0=v.a from rfl,aB]at bT bm
  rw[show fld v 1=v.b from rfl,hb]at f1 aW
  exact⟨bT,f1,bm,aW⟩
 have key1:cnt v.op=1->Ln _ _ (je _ v.a):=λai=>by
  have aW:=hn 1 xaa
  have bd:=hn 2 xaa
  exact(ht 0 xaa).resolve_left (λc=>c0 ⟨c,aW,bd⟩)
 by_cases N:v.op=2
 ·grind[J4]
 rw[ip N];by_cases h3:v.op=3
 ·grind[J5]
 rw[ip h3];by_cases bp:v.op=4
 ·grind[J6]
 rw[ip bp];by_cases bU:v.op=5
 ·grind[J7]
 rw[ip bU];by_cases al:v.op=7
 ·rw[iv al];obtain⟨bj,bb,ap,aC⟩:=key2 xaa;have ca:=g.two (.inr (.inl rfl)) bj bb;have h:=Ge ca (ij _ _ rfl rfl) (ap.imp id (λh=>h.app _)) (aC.imp id (λh=>h.app _));grind[Put,Put.o]
 rw[ip al];by_cases Q:v.op=8
 ·rw[iv Q];obtain⟨ai,aB,hb,l⟩:=Gb ok e Q;have bT:=pF ok hi e (q:=0) xaa;have aW:=ht 1 xaa;have bd:=ht 2 xaa;rw[show fld v 0=v.a from rfl,aB]at bT;rw[show fld v 1=v.b from rfl,hb]at aW;rw[show fld v 2=v.c from rfl,l]at bd;by_cases c:t 1=-1/\t 2=-1
  ·rw[iv c];exact C4 g
  rw[ip c];exact(Ge g bT aW bd).o
 rw[ip Q];by_cases P:v.op=13
 ·rw[iv P];obtain⟨ai,aB,l⟩:=xA ok e (.inr P);have k:=key1 ai;rw[aB]at k;exact(put1 (g.two (.inr (.inr (.inl rfl))) k aw) rfl rfl).o
 rw[ip P];rcases Gc ok e with aj|B
 ·grind[cnt]
 by_cases bz:v.op=6
 ·obtain⟨ai,aB,l⟩:=xA ok e (.inl bz);have k:=key1 ai;rw[aB]at k;rw[bz,l];exact(put1 (g.one (.inl rfl) k) rfl rfl).o
 by_cases aG:v.op=9
 ·obtain⟨ai,aB,l⟩:=Pm ok e aG;have k:=key1 ai;rw[aG,l,aB];exact(put1 (g.p9 k) rfl rfl).o
 by_cases u:v.op=10
 ·obtain⟨ai,aB,l⟩:=LY ok e u;have k:=key1 ai;rw[aB]at k;rw[u,l];exact(put1 (g.p10 ag k) rfl rfl).o
 by_cases F:v.op=11
 ·obtain⟨ai,aB,l⟩:=LZ ok e F;have k:=key1 ai;rw[F,aB];exact(put1 (g.p11 k l) rfl rfl).o
 by_cases G:v.op=12
 ·obtain⟨ai,aB,l⟩:=L4 ok e G;have k:=key1 ai;rw[aB]at k;rw[G];exact(put1 (g.p12 ag k l) rfl rfl).o
 grind[cnt]
theorem cD.qck(h:Zp:=by
 have key2:v.op=2\/v.op=3\/v.op=4\/v.op=5\/v.op=7->Ln vs _ _/\Ln vs _ _/\je _ (fld v k)=v.len/\k<2:=λaR=>by
  obtain⟨ai,aB,ao⟩:=Ga ok hi e aR
  have bT:=pF ok hi e (q:=0) xaa
  have f1:=pF ok hi e (q:=1) xaa
  rw[show fld v 0=v.a from rfl,aB]at bT
  rw[show fld v 1=v.b from rfl,ao]at f1
  refine⟨bT,f1,?_,by omega⟩
  rcases (by omega:k=0\/k=1) with rfl|rfl
  ·exact aB
  ·exact ao
 have key1:cnt v.op=1->fld v k=v.a:=λai=>by
  obtain rfl:k=0:=xaa
  rfl
 unfold mX;by_cases N:v.op=2
 ·grind[put0]
 rw[ip N];by_cases h3:v.op=3
 ·rw[iv h3,(key2 xaa).2.2.1];by_cases c:k=0
  ·rw[iv c];exact put0 g aN
  rw[ip c];exact put1 (g.one (.inl rfl) aN) rfl rfl
 rw[ip h3];by_cases bp:v.op=4
 ·obtain⟨bj,bb,y,_⟩:=key2 xaa;rw[iv bp,y];by_cases c:k=0
  ·rw[iv c];exact put1 (g.two C aN bb) rfl rfl
  rw[ip c];exact put1 (g.two C aN bj) rfl rfl
 rw[ip bp];by_cases bU:v.op=5
 ·obtain⟨bj,bb,y,_⟩:=key2 xaa;rw[iv bU,y];by_cases c:k=0
  ·rw[iv c];exact put1 (g.two dg aN bb) rfl rfl
  rw[ip c];have ca:=g.two C aN aw;have a2:=ca.two dg (ij _ _ rfl rfl) (bb.app _);exact put3 (a2.one (.inl rfl) (ij _ _ xac rfl)) rfl rfl
 rw[ip bU];by_cases bz:v.op=6
 ·obtain⟨ai,aB,_⟩:=xA ok e (.inl bz);rw[iv bz,key1 ai,aB];exact put1 (g.one (.inl rfl) aN) rfl rfl
 rw[ip bz];by_cases P:v.op=13
 ·obtain⟨ai,aB,_⟩:=xA ok e (.inr P);rw[iv P,key1 ai,aB];exact put1 (g.two C aN aw) rfl rfl
 rw[ip P];by_cases Q:v.op=8
 ·obtain⟨ai,aB,K,l⟩:=Gb ok e Q;have bT:=pF ok hi e (q:=0) xaa;rw[show fld v 0=v.a from rfl,aB]at bT;have bF:k≠0:=λc=>by subst c;simp[oY,Q]at hb
  have y:je vs (fld v k)=v.len:=by
   rcases (by omega:k=1\/k=2) with rfl|rfl
   ·exact K
   exact l
  rw[iv Q,y];have z:=g.z ag;have a5:Ln (vs++[eK 1 v.len 0 0 0]) _ v.len:=ij _ _ rfl rfl;by_cases c:k=1
  ·rw[iv c];exact put2 (z.sel (bT.app _) (aN.app _) a5) rfl rfl
  rw[ip c];exact put2 (z.sel (bT.app _) a5 (aN.app _)) rfl rfl
 rw[ip Q];by_cases al:v.op=7
 ·obtain⟨bj,bb,y,_⟩:=key2 xaa;rw[iv al,y];have ca:=g.two Z bj bb;have a5:Ln (vs++[eK 3 v.len v.a v.b 0]) _ v.len:=ij _ _ rfl rfl;have a2:=ca.z ag;have cj:Ln ((vs++[eK 3 v.len v.a v.b 0])++[eK 1 v.len 0 0 0]) ((vs.length+1:Nat):Int) v.len:=ij _ _ xac rfl;by_cases c:k=0
  ·rw[iv c];exact put3 (a2.sel (a5.app _) ((aN.app _).app _) cj) rfl rfl
  rw[ip c];exact put3 (a2.sel (a5.app _) cj ((aN.app _).app _)) rfl rfl
 rw[ip al];have ax:cnt v.op=1->1<=je vs _/\je _ v.a<=1000:=λai=>g.len (pF ok hi e (q:=0) xaa);by_cases aG:v.op=9
 ·obtain⟨ai,aB,_⟩:=Pm ok e aG;rw[iv aG,key1 ai];rw[aB]at aN;exact put1 (g.p10 (ax ai) aN) rfl rfl
 rw[ip aG];by_cases u:v.op=10
 ·obtain⟨ai,aB,_⟩:=LY ok e u;rw[iv u,key1 ai,aB];exact put1 (g.p9 aN) rfl rfl
 rw[ip u];by_cases F:v.op=11
 ·obtain⟨ai,aB,l⟩:=LZ ok e F;rw[iv F,key1 ai];rw[aB]at aN;exact put1 (g.p12 (ax ai) aN l) rfl rfl
 rw[ip F];rcases Gc ok e with aj|B
 ·grind[cnt]
 by_cases G:v.op=12
 ·obtain⟨ai,aB,l⟩:=L4 ok e G;rw[key1 ai,aB];exact put1 (g.p11 aN l) rfl rfl
 grind[cnt]):Zp:=h
open cD in
theorem J8(g:GVal ins vs)(hi:i<vs.length)(e:vs.getD i i0=v){k}(J:k<cnt v.op)(hb:oY v k=true){d}(aN:Ln vs d v.len):Put ins vs (je vs (fld v k)) (mX (i:Int) v (je vs v.a) k d vs.length):=by
 have ok:=g.1 i hi;have ag:1<=v.len/\v.len<=1000:=by rw[<-e];exact fV ok
 have aw:=BJ hi e;exact qcj
end
structure GIv(ins:List Int)(vs0:List Vl)(st:List Vl×List Int):Prop where
 g:GVal ins st.1
 p:Pre vs0 st.1
 l:st.2.length=vs0.length
 m:∀q,q<vs0.length->st.2.getD q 0=-1\/Ln st.1 (st.2.getD q 0) (je vs0 (q:Int))
theorem jb(vs)(q:Nat):je vs (q:Int)=(vs.getD q i0).len:=by unfold je;grind
theorem tO(p:Pre vs0 us)(aj:0<=j)(B:j<(vs0.length:Int)):je us j=je vs0 j:=by
 unfold je;rw[(p.at_ (j:=j.toNat) xaa).1]
theorem C5(l:List Int)(i x)(h:i<l.length):(l.set i x).getD i 0=x:=by
 simp_all
theorem C6(l:List Int)(i q x)(h:i≠q):(l.set i x).getD q 0=l.getD q 0:=by
 simp_all
theorem GIv.put{ins vs0 st}(h:GIv ins vs0 st){i}(hi:i<vs0.length){M}(bE:xz ins st.1 (je vs0 (i:Int)) M):GIv ins vs0 (st.1++M.1,st.2.set i M.2):=by
 refine⟨bE.1,h.p.app,by rw[List.length_set];exact h.l,λq am=>?_⟩;by_cases c:i=q
 ·subst c;simp only;rw[C5 _ _ _ (jn h.l hi)];exact bE.2
 simp only;rw[C6 _ _ _ _ c];exact(h.m q am).imp id (λx=>x.app _)
theorem vg(g:GVal ins (vs0++us))(aH:x<vs0.length){t}(ht:Ln (vs0++us) t (je vs0 (x:Int))):GIv ins vs0 (vs0++us,(List.replicate vs0.length (-1)).set x t):=by
 refine⟨g,⟨_,rfl⟩,by grind,λq am=>?_⟩;grind
theorem y9{ins vs0}(g:GVal ins vs0){x t:Nat}(ht:Ln vs0 (t:Int) (je vs0 (x:Int))):∀k,x+k<vs0.length->GIv ins vs0 (jst vs0 x t k)
 |0,J=>by
  have h:=vg (us:=[]) (ins:=ins) (vs0:=vs0) (x:=x) (t:=(t:Int)) (by simpa using g) xaa (by simpa using ht)
  rw[List.append_nil]at h
  exact h
 |k+1,J=>by
  have Z:=y9 g ht k xaa
  have hi:x+1+k<vs0.length:=xaa
  have e:=(Z.p.at_ hi).1
  have bE:=NG Z.g (Z.p.at_ hi).2 e (ovs (vs0.getD (x+1+k) i0) (jst vs0 x t k).2 (cnt (vs0.getD (x+1+k) i0).op)) (λq am=>?_) (λq am=>by unfold ovs;omega)
  ·rw[<-jb]at bE
   exact Z.put hi bE
  ·have aR:=ml (g.1 _ hi) q am
   unfold ovs
   rw[iv am,tO Z.p aR.1 xaa]
   have aD:=Z.m (fld (vs0.getD (x+1+k) i0) q).toNat xaa
   grind
theorem mM(g:GVal ins vs){t:Nat}(aw:s<vs.length)(aH:x<vs.length)(ht:Ln vs (t:Int) (je vs (x:Int))):GVal ins (jK vs s x t).1/\Ln (jK vs s x t).1 (jK vs s x t).2 (je vs (s:Int))/\Pre vs (jK vs s x t).1:=by
 have h:=y9 g ht (s-x) xaa;have ag:=fV (g.1 s aw);unfold jK;by_cases c:(jst vs x t (s-x)).2.getD s 0=-1
 ·rw[iv c];exact⟨h.g.z ag,ij _ _ rfl (jb _ _).symm,h.p.app⟩
 rw[ip c];exact⟨h.g,(h.m s aw).resolve_left c,h.p⟩
theorem J9(g:GVal ins vs0){act i}(hi:i<vs0.length)(J:k<cnt (vs0.getD i i0).op){st}(h:GIv ins vs0 st)(aN:st.2.getD i 0≠-1):GIv ins vs0 (gkM vs0 act i k st)/\(gkM vs0 act i k st).2.getD i 0=st.2.getD i 0:=by
 unfold gkM;by_cases c:act.getD (fld (vs0.getD i i0) k).toNat false=true/\oY (vs0.getD i i0) k=true
 ·rw[iv c];have aR:=ml (g.1 i hi) k J;have aj:=ml (g.1 i hi) 0 xaa;have e:=(h.p.at_ hi).1;have bd:=(h.m i hi).resolve_left aN;rw[jb]at bd;have hP:=J8 h.g (h.p.at_ hi).2 e J c.2 bd;rw[tO h.p aR.1 xaa,show je st.1 _=laM _ i from tO h.p aj.1 (by have:(vs0.getD i _).a<i:=aj.2;omega)]at hP;generalize mX _ _ _ k _ _=M at hP;generalize f5:fld _ k=Y at aR hP;obtain⟨o,rfl⟩:=Int.eq_ofNat_of_zero_le aR.1;have gy:o<i:=xaa;rw[Int.toNat_natCast];unfold mn;simp only;by_cases d:st.2.getD o 0=-1
  ·rw[iv d];refine⟨h.put xaa hP.o,?_⟩;grind
  rw[ip d];have l:=((h.m o xaa).resolve_left d).app M.1;have a2:=hP.1.two (.inl rfl) l hP.2
  have N:xz ins st.1 (je vs0 o) (M.1++[eK 2 (je vs0 o) (st.2.getD o 0) M.2 0],((st.1++M.1).length:Int)):=by
   refine⟨by grind,.inr ?_⟩;simp only;rw[<-List.append_assoc];exact ij _ _ rfl rfl
  have h3:=h.put xaa N;grind[jb]
 grind
theorem vh{ins vs0}(g:GVal ins vs0){act i}(hi:i<vs0.length){st}(h:GIv ins vs0 st)(aN:st.2.getD i 0≠-1):∀k,k<=cnt (vs0.getD i i0).op->GIv ins vs0 (jM vs0 act i st k)/\(jM vs0 act i st k).2.getD i 0=st.2.getD i 0
 |0,_=>⟨h,rfl⟩
 |k+1,J=>by
  obtain⟨B,N⟩:=vh g hi h aN k xaa
  obtain⟨h3,bp⟩:=J9 g (act:=act) hi J B (jn N aN)
  exact⟨h3,bp.trans N⟩
theorem za{ins vs0}(g:GVal ins vs0){act s}(aw:s<vs0.length)(B:(vs0.getD s i0).len=1):∀j,GIv ins vs0 (gdn vs0 act s j)
 |0=>vg (g.p1 ⟨by decide,by decide⟩ xab) aw (ij _ _ rfl (by rw[jb,B]))
 |j+1=>by
  have Z:=za (act:=act) g aw B j
  grind[giM,gdn,vh]
theorem zc(g:GVal ins vs)(aw:s<vs.length)(aH:x<vs.length)(B:(vs.getD s i0).len=1):GVal ins (grM vs s x).1/\Ln (grM vs s x).1 (grM vs s x).2 (je vs (x:Int))/\Pre vs (grM vs s x).1:=by
 have ag:=fV (g.1 x aH);unfold grM;by_cases c:(jg vs x (s-x)).getD s false=true
 ·rw[iv c];unfold Fi;rw[tF _ _ _ _ _ yad];have h:=za (act:=jg vs x (s-x)) g aw B (s-x);unfold ML;by_cases d:(gdn vs (jg vs x (s-x)) s (s-x)).2.getD x 0=-1
  ·rw[iv d];exact⟨h.g.z ag,ij _ _ rfl (jb _ _).symm,h.p.app⟩
  rw[ip d];exact⟨h.g,(h.m x aH).resolve_left d,h.p⟩
 rw[ip c];exact⟨g.z ag,ij _ _ rfl (jb _ _).symm,⟨_,rfl⟩⟩
theorem Gd.v(g:Gd st):GVal st.ins st.vs:=⟨λi hi=>List.all_eq_true.1 g.ok i (List.mem_range.2 hi),g.k⟩
theorem Gd.with(g:Gd st)(h:GVal st.ins vs)(ag:kq vs=false):Gd {st with vs:=vs}:=by
 obtain⟨B,N⟩:=F8 ag;exact⟨B,N,List.all_eq_true.2 (λi hi=>h.1 i (List.mem_range.1 hi)),h.2,g.i,g.o,g.m⟩
structure Gw(st st':LSt):Prop where
 g:Gd st'
 n:st.vs.length<=st'.vs.length
 l:∀i,i<st.vs.length->eW st' i=eW st i
 i:st'.ins=st.ins
 o:st'.outs=st.outs
 m:st'.names=st.names
theorem Gw.refl(g:Gd st):Gw st st:=⟨g,yad,λ_ _=>rfl,rfl,rfl,rfl⟩
theorem Gw.trans{a c}(h:Gw a b)(k:Gw b c):Gw a c:=
 ⟨k.g,yao h.n k.n,λi hi=>(k.l i (yak hi h.n)).trans (h.l i hi),k.i.trans h.i,k.o.trans h.o,k.m.trans h.m⟩
def RsG(st:LSt)(r:Rs (LSt×Nat)):Prop:=∀st' v,r=.ok (st',v)->Gw st st'/\v<st'.vs.length
theorem gS{f}:RsG st (.error f):=λ_ _ h=>by cases h
theorem Gf{v}(h:Gw st R)(aL:v<R.vs.length):RsG st (.ok (R,v)):=λ_ _ e=>by grind
theorem RsG.back{a}(h:Gw a b)(k:RsG b r):RsG a r:=λs v e=>⟨h.trans (k s v e).1,(k s v e).2⟩
theorem Gg(p:Pre st.vs vs){i}(hi:i<st.vs.length):eW {st with vs:=vs} i=eW st i:=by
 unfold eW;simp only;rw[(p.at_ hi).1]
theorem Gh(g:Gd st)(h:GVal st.ins vs)(ag:kq vs=false)(p:Pre st.vs vs):Gw st {st with vs:=vs}:=
 ⟨g.with h ag,by obtain⟨r,rfl⟩:=p;simp,λi hi=>Gg p hi,rfl,rfl,rfl⟩
theorem ot(g:Gd st){v}(h:GVal st.ins (st.vs++[v])){p j}(e:fQ st v p=.ok (R,j)):Gw st R/\j<R.vs.length/\eW R j=v.len:=by
 unfold fQ at e;cases ag:kq (st.vs++[v]) with
 |true=>grind
 |false=>
  rw[ag,ip xac]at e;cases e;have hn:=ij st.vs v rfl rfl;exact⟨Gh g h ag ⟨_,rfl⟩,by simp,by have:=hn.2.2;rw[Int.toNat_natCast]at this;exact this⟩
theorem jQ(g:Gd st){v}(h:GVal st.ins (st.vs++[v]))(p):RsG st (fQ st v p):=λ_ _ e=>⟨(ot g h e).1,(ot g h e).2.1⟩
theorem pG(g:Gd st){m n}(h:GVal st.ins m.1/\Ln m.1 m.2 n/\Pre st.vs m.1)(p):RsG st (iB st m p):=by
 unfold iB;cases ag:kq m.1 with
 |true=>rw[iv rfl];exact gS
 |false=>
  rw[ip xac];refine Gf (Gh g h.1 ag h.2.2) ?_;have:=h.2.1.1;have:=h.2.1.2.1;grind
theorem jE{i}(h:i<st.vs.length):Ln st.vs (i:Int) (eW st i):=⟨by omega,by omega,jL Int.toNat_natCast⟩
theorem qX(n p)(hn:1<=n/\n<=1000):∀(xs:List Nat) (st:LSt),Gd st->(∀i∈xs,i<st.vs.length/\(eW st i=n\/eW st i=1))->∀R aU,iw n p st xs=.ok (R,aU)->Gw st R/\aU.length=xs.length/\∀j∈aU,j<R.vs.length/\eW R j=n
 |[],st,g,_,R,aU,e=>by
  cases e<;>grind[Gw.refl]
 |i::r,st,g,aH,R,aU,e=>by
  have hi:=aH i (List.mem_cons_self ..)
  by_cases c:eW st i<n
  ·have B:eW st i=1:=xaa
   cases aA:fQ st (eK 10 n (i:Int) 0 0) p with
   |error f=>rw[pw c aA]at e;cases e
   |ok x=>
    obtain⟨av,j⟩:=x
    obtain⟨aK,ak,aM⟩:=ot g (g.v.p10 hn (by rw[<-B];exact jE hi.1)) aA
    rw[pt c aA]at e
    cases br:iw n p av r with
    |error f=>rw[br]at e;cases e
    |ok y=>
     obtain⟨aT,U⟩:=y
     rw[br]at e
     cases e
     obtain⟨ap,aC,a9⟩:=qX n p hn r _ aK.g (λq am=>by
      have h:=aH q (List.mem_cons_of_mem _ am)
      rw[aK.l q h.1]
      exact⟨yak h.1 aK.n,h.2⟩) _ _ br
     refine⟨aK.trans ap,by simp[aC],λq am=>?_⟩
     rcases List.mem_cons.1 am with rfl|am
     ·exact⟨yak ak ap.n,(ap.l q ak).trans aM⟩
     ·exact a9 q am
  ·have B:eW st i=n:=xaa
   rw[om c]at e
   cases br:iw n p st r with
   |error f=>rw[br]at e;cases e
   |ok y=>
    obtain⟨aT,U⟩:=y
    rw[br]at e
    cases e
    obtain⟨ap,aC,a9⟩:=qX n p hn r _ g (λq am=>aH q (List.mem_cons_of_mem _ am)) _ _ br
    refine⟨ap,by simp[aC],λq am=>?_⟩
    rcases List.mem_cons.1 am with rfl|am
    ·exact⟨yak hi.1 ap.n,(ap.l q hi.1).trans B⟩
    ·exact a9 q am
theorem ll(g:Gd st)(xs p)(aH:∀i∈xs,i<st.vs.length)(e:jN st xs p=.ok (R,aU)):Gw st R/\aU.length=xs.length/\∃n,∀j∈aU,j<R.vs.length/\eW R j=n:=by
 unfold jN at e;by_cases c:xs.all (λi=>eW st i==pB st xs||eW st i==1)=true
 ·rw[iv c]at e;have hb:=xw g _ aH _ yad;rw[List.take_length]at hb;obtain⟨B,N,h3⟩:=qX _ p hb _ _ g (λi hi=>⟨aH i hi,by simp_all⟩) _ _ e;exact⟨B,N,_,h3⟩
 grind
theorem lW(h:k<aU.length):aU.getD k 0∈aU:=by
 simp_all
theorem Gi(s):qj s=2\/qj s=3\/qj s=4\/qj s=5\/qj s=7:=by
 grind[qj]
theorem bH.qbw(h:Zp:=by
 have a5:=jE bT.1;have cj:=jE f1.1;rw[f1.2,<-bT.2]at cj;exact RsG.back B (jQ B.g (B.g.v.two (Gi _) a5 cj) _)):Zp:=h
open bH in
theorem Ka(g:Gd st)(o){b}(aB:a<st.vs.length)(hb:b<st.vs.length):RsG st (qk st o a b):=by
 unfold qk;cases br:jN st [a,b] o.pos with
 |error f=>exact gS
 |ok x=>
  exact qbv
theorem bI.qbw(h:Zp:=by
 have a5:=jE bT.1;have cj:=jE f1.1;rw[f1.2,<-bT.2]at cj;simp only;by_cases c:k.sym=As
 ·rw[iv c];exact RsG.back B (jQ B.g (B.g.v.two (.inr (.inr (.inr (.inr rfl)))) a5 cj) _)
 rw[ip c];cases aA:fQ aT (eK 4 (eW aT (f.getD 0 0)) (f.getD 0 0:Nat) (f.getD 1 0:Nat) 0) k.pos with
 |error f=>exact gS
 |ok x=>
  obtain⟨G,j⟩:=x;obtain⟨aK,ak,aM⟩:=ot B.g (B.g.v.two (.inr (.inr (.inl rfl))) a5 cj) aA;exact RsG.back (B.trans aK) (jQ aK.g (aK.g.v.p9 (jE ak)) _)):Zp:=h
open bI in
theorem Gj(g:Gd st)(k){b}(aB:a<st.vs.length)(hb:b<st.vs.length):RsG st (ql st k a b):=by
 unfold ql;cases br:jN st [a,b] k.pos with
 |error f=>exact gS
 |ok x=>
  exact qbv
theorem bJ.qbw(h:Zp:=by
 have f2:=h3 _ (lW (k:=2) (by rw[N];simp));have a5:=jE bT.1;have cj:=jE f1.1;have cw:=jE f2.1;rw[f1.2,<-bT.2]at cj;rw[f2.2,<-bT.2]at cw;exact RsG.back B (jQ B.g (B.g.v.sel a5 cj cw) _)):Zp:=h
open bJ in
theorem Kb(g:Gd st)(k){b c}(aB:a<st.vs.length)(hb:b<st.vs.length)(ai:c<st.vs.length):RsG st (wH st k a b c):=by
 unfold wH;cases br:jN st [a,b,c] k.pos with
 |error f=>exact gS
 |ok x=>
  exact qbv
theorem BK{l}(h:Dgs l):0<=ii l:=by
 have:=pD h yad;grind
theorem AS(g:Gd st)(k)(aB:a<st.vs.length)(n)(bI:Dgs n.text):RsG st (lO st k a n):=by
 have aj:=BK bI;have y:=jE aB;unfold lO;by_cases c:k.sym=pZ
 ·rw[iv c];by_cases d:eW st a<=ii n.text
  ·rw[iv d];exact gS
  rw[ip d];exact jQ g (g.v.p11 y ⟨aj,by omega⟩) _
 rw[ip c];by_cases d:eW st a≠1
 ·rw[iv d];exact gS
 rw[ip d];by_cases e:ii n.text<1\/1000<ii n.text
 ·rw[iv e];exact gS
 rw[ip e];rw[Decidable.not_not.1 d]at y;exact jQ g (g.v.p10 ⟨by omega,by omega⟩ y) _
theorem AT(g:Gd st)(k)(aB:a<st.vs.length)(i n)(bI:Dgs i.text):RsG st (lP st k a i n):=by
 have aj:=BK bI;have y:=jE aB;unfold lP;by_cases d:eW st a≠1
 ·rw[iv d];exact gS
 rw[ip d];by_cases e:ii n.text<1\/1000<ii n.text
 ·rw[iv e];exact gS
 rw[ip e];by_cases q:ii n.text<=ii i.text
 ·rw[iv q];exact gS
 rw[ip q];rw[Decidable.not_not.1 d]at y;exact jQ g (g.v.p12 ⟨by omega,by omega⟩ y ⟨aj,by omega⟩) _
theorem Gk(g:Gd st)(k)(aB:a<st.vs.length)(aH:x<st.vs.length):RsG st (pr st k a x):=by
 unfold pr;by_cases d:eW st a≠1
 ·rw[iv d];exact gS
 rw[ip d];exact pG g (zc g.v aB aH (Decidable.not_not.1 d)) _
theorem Kc(g:Gd st)(k){d}(aB:a<st.vs.length)(aH:x<st.vs.length)(aN:d<st.vs.length):RsG st (pC st k a x d):=by
 have dg:=g.lenB aH;have cR:=jE aN;unfold pC;by_cases c:eW st d=1/\1<eW st x
 ·rw[iv c];rw[c.1]at cR;cases aA:fQ st (eK 10 (eW st x) (d:Int) 0 0) k.pos with
  |error f=>exact gS
  |ok y=>
   obtain⟨aT,bk⟩:=y;obtain⟨aK,ak,aM⟩:=ot g (g.v.p10 dg cR) aA;refine RsG.back aK (pG aK.g (mM aK.g.v (yak aB aK.n) (yak aH aK.n) ?_) _);have cw:=jE ak;rw[aM]at cw;rw[jb];have:=aK.l x aH;rw[show(aT.vs.getD x _).len=eW _ x from rfl,this];exact cw
 rw[ip c];by_cases e:eW st d≠eW st x
 ·rw[iv e];exact gS
 rw[ip e];refine pG g (mM g.v aB aH ?_) _;grind[jb,eW]
inductive EOK:Ex->Prop
 |num (t:Tok):EOK (.num t)
 |name (t:Tok):EOK (.name t)
 |neg (o:Tok) {e:Ex}:EOK e->EOK (.neg o e)
 |bin (o:Tok) {a b:Ex}:EOK a->EOK b->EOK (.bin o a b)
 |call (t:Tok) {es:List Ex}:(∀e∈es,EOK e)->EOK (.call t es)
 |key1 (k:Tok) {e:Ex}:EOK e->EOK (.key1 k e)
 |key2 (k:Tok) {a b:Ex}:EOK a->EOK b->EOK (.key2 k a b)
 |key3 (k:Tok) {a b c:Ex}:EOK a->EOK b->EOK c->EOK (.key3 k a b c)
 |keyN (k:Tok) {e:Ex}{n:Tok}:EOK e->Dgs n.text->EOK (.keyN k e n)
 |put (k:Tok) {e:Ex}{i n:Tok}:EOK e->Dgs i.text->Dgs n.text->EOK (.put k e i n)
 |grad (k:Tok) {e:Ex} (x:Tok):EOK e->EOK (.grad k e x)
 |jvp (k:Tok) {e d:Ex} (x:Tok):EOK e->EOK d->EOK (.jvp k e x d)
theorem jf{n es ts}(h:Pr n es ts):(∀t∈ts,t.sym=ik->Dgs t.text)->∀e∈es,EOK e:=by
 have one:∀{P:Ex->Prop}{x:Ex},P x->∀e∈[x],P e:=λh e ay=>by grind
 have w:∀{P:Ex->Prop}{x:Ex},(∀e∈[x],P e)->P x:=λh=>h _ (List.mem_singleton.2 rfl);induction h with
 |up01 _ Z=>exact Z
 |up12 _ Z=>exact Z
 |add _ _ _ g m=>exact λab=>one (.bin _ (w (g λt ht=>ab t (by simp[ht]))) (w (m λt ht=>ab t (by simp[ht]))))
 |mul _ _ _ g m=>exact λab=>one (.bin _ (w (g λt ht=>ab t (by simp[ht]))) (w (m λt ht=>ab t (by simp[ht]))))
 |neg _ _ Z=>exact λab=>one (.neg _ (w (Z λt ht=>ab t (by simp[ht]))))
 |num _=>exact λ_=>one (.num _)
 |name _=>exact λ_=>one (.name _)
 |par _ _ _ Z=>simp_all
 |call0 _ _ _=>exact λ_=>one (.call _ (λe ay=>by cases ay))
 |call _ _ _ _ Z=>exact λab=>one (.call _ (Z λt ht=>ab t (by simp[ht])))
 |arg1 _ Z=>exact Z
 |argM _ _ _ g m=>grind
 |key1 _ _ _ _ Z=>exact λab=>one (.key1 _ (w (Z λt ht=>ab t (by simp[ht]))))
 |key2 _ _ _ _ _ _ g m=>exact λab=>one (.key2 _ (w (g λt ht=>ab t (by simp[ht]))) (w (m λt ht=>ab t (by simp[ht]))))
 |key3 _ _ _ _ _ _ _ _ g m u=>exact λab=>one (.key3 _ (w (g λt ht=>ab t (by simp[ht]))) (w (m λt ht=>ab t (by simp[ht]))) (w (u λt ht=>ab t (by simp[ht]))))
 |keyN _ _ _ _ hn _ Z=>exact λab=>one (.keyN _ (w (Z λt ht=>ab t (by simp[ht]))) (ab _ xac hn))
 |put _ _ _ _ hi _ hn _ Z=>exact λab=>one (.put _ (w (Z λt ht=>ab t (by simp[ht]))) (ab _ xac hi) (ab _ xac hn))
 |grad _ _ _ _ _ _ Z=>exact λab=>one (.grad _ _ (w (Z λt ht=>ab t (by simp[ht]))))
 |jvp _ _ _ _ _ _ _ _ g m=>exact λab=>one (.jvp _ _ (w (g λt ht=>ab t (by simp[ht]))) (w (m λt ht=>ab t (by simp[ht]))))
def BOK(n:Nat):Bdg->Prop
 |.val _ v=>v<n
 |.fn _ _ e=>EOK e
def NmOK(st:LSt):Prop:=∀b∈st.names,BOK st.vs.length b
theorem BOK.le{n m}(h:n<=m){b}(k:BOK n b):BOK m b:=by
 cases b with
 |val _ v=>exact yak k h
 |fn _ _ _=>exact k
theorem NmOK.gw{a}(h:NmOK a)(w:Gw a b):NmOK b:=λx aH=>(h x (jv w.m aH)).le w.n
def LcOK(loc:Loc)(n:Nat):Prop:=∀b∈loc,b.2<n
theorem LcOK.le{u n m}(k:LcOK u n)(h:n<=m):LcOK u m:=λb hb=>yak (k b hb) h
theorem ow(aD:NmOK st){u}(ag:LcOK u st.vs.length){t v}(e:fw st u t=.ok v):v<st.vs.length:=by
 unfold fw AI at e;cases br:u.find? (λb=>b.1==t.text) with
 |some b=>
  rw[br]at e;simp only[Option.map_some]at e;cases e;exact ag b (List.mem_of_find?_eq_some br)
 |none=>
  rw[br]at e;simp only[Option.map_none]at e;unfold iI at e;cases hb:st.names.find? (λb=>b.nm==t.text) with
  |none=>grind
  |some b=>
   rw[hb]at e;have:=aD b (List.mem_of_find?_eq_some hb);cases b with
   |val _ v=>cases e;exact this
   |fn _ _ _=>cases e
theorem ie{r f}(B:∀q,r=some q->RsG st q)(N:∀s a,Gw st s->a<s.vs.length->∀q,f s a=some q->RsG s q):∀q,jo r f=some q->RsG st q:=λq e=>by
 unfold jo at e
 cases r with
 |none=>cases e
 |some x=>
  cases x with
  |error x=>grind
  |ok x=>
   obtain⟨s,a⟩:=x
   obtain⟨w,aB⟩:=B _ rfl s a rfl
   exact RsG.back w (N s a w aB q e)
theorem vi{aG d}:∀(es:List Ex) (st:LSt),Gw d st->(∀e∈es,∀s,Gw d s->∀q,aG s e=some q->RsG s q)->∀aT xs,fY aG st es=some (.ok (aT,xs))->Gw st aT/\xs.length=es.length/\∀x∈xs,x<aT.vs.length
 |[],st,w0,_,aT,xs,e=>by
  cases e
  exact⟨Gw.refl w0.g,rfl,λx aH=>by cases aH⟩
 |ad::r,st,w0,g,aT,xs,e=>by
  unfold fY at e
  cases B:aG st ad with
  |none=>grind
  |some q=>
   rw[B]at e
   cases q with
   |error f=>cases e
   |ok x=>
    obtain⟨av,a⟩:=x
    obtain⟨w,aB⟩:=g _ (List.mem_cons_self ..) _ w0 _ B _ a rfl
    simp only at e
    cases N:fY aG av r with
    |none=>grind
    |some q=>
     rw[N]at e
     cases q with
     |error f=>cases e
     |ok x=>
      obtain⟨G,ys⟩:=x
      simp only at e
      cases e
      obtain⟨ap,aC,a9⟩:=vi r _ (w0.trans w) (λe ay=>g e (List.mem_cons_of_mem _ ay)) _ _ N
      refine⟨w.trans ap,by simp[aC],λx aH=>?_⟩
      rcases List.mem_cons.1 aH with rfl|aH
      ·exact yak aB ap.n
      grind
theorem ic{q}(h:RsG st r)(e:some r=some q):RsG st q:=by grind
theorem gc:∀(f:Nat) (st:LSt) (u:Loc) (e:Ex),Gd st->NmOK st->LcOK u st.vs.length->EOK e->∀r,eM f st u e=some r->RsG st r
 |0,_,_,_,_,_,_,_,r,h=>by cases h
 |f+1,st,u,e,g,aD,ag,ay,r,h=>by
  have Z:∀{e:Ex},EOK e->∀{s:LSt},Gw _ s->∀q,eM f s _ e=some q->_:=λay s w q am=>gc f s _ _ w.g (aD.gw w) (ag.le w.n) ay q am
  cases ay with
  |num t=>
   rw[eM]at h
   exact ic (jQ g (g.v.p1 ⟨by decide,by decide⟩ (FW _ _ _)) _) h
  |name t=>
   grind[eM,gS,Gf,Gw.refl,ow]
  |neg o ay=>
   rw[eM]at h
   exact ie (Z ay (Gw.refl g)) (λs a w aB q am=>ic (jQ w.g (w.g.v.one (.inl rfl) (jE aB)) _) am) r h
  |bin o aB hb=>
   rw[eM]at h
   exact ie (Z aB (Gw.refl g)) (λs a w aB=>ie (Z hb w) (λaT b ak hb q am=>ic (Ka ak.g _ (yak aB ak.n) hb) am)) r h
  |call t cz=>
   rename_i es
   rw[eM]at h
   cases br:iI st.names t.text with
   |none=>rw[br]at h;exact ic gS h
   |some b=>
    rw[br]at h
    cases b with
    |val _ _=>exact ic gS h
    |fn aa ps ad=>
     simp only at h
     by_cases c:ps.length=es.length
     ·rw[iv c]at h
      cases aB:fY (λs e=>eM f s u e) st es with
      |none=>grind
      |some q=>
       rw[aB]at h
       cases q with
       |error q=>exact ic gS h
       |ok x=>
        obtain⟨av,xs⟩:=x
        obtain⟨w,ak,aM⟩:=vi _ _ (Gw.refl g) (λe ay s w q am=>Z (cz e ay) w q am) _ _ aB
        simp only at h
        by_cases d:500<=av.calls
        ·rw[iv d]at h;exact ic gS h
        ·rw[ip d]at h
         have bx:Gw _ {av with calls:=av.calls+1}:=⟨⟨w.g.n,w.g.c,w.g.ok,w.g.k,w.g.i,w.g.o,w.g.m⟩,w.n,w.l,w.i,w.o,w.m⟩
         have hb:EOK _:=aD _ (List.mem_of_find?_eq_some br)
         exact RsG.back bx (gc f _ _ _ bx.g (aD.gw bx) (λb hb=>aM _ (List.of_mem_zip (show(b.1,b.2)∈_ from hb)).2) hb r h)
     ·rw[ip c]at h;exact ic gS h
  |key1 k ay=>
   rw[eM]at h
   refine ie (Z ay (Gw.refl g)) (λs a w aB q am=>ic ?_ am) r h
   by_cases c:k.sym=yk
   ·rw[iv c];exact jQ w.g (w.g.v.one (.inr rfl) (jE aB)) _
   ·rw[ip c];exact jQ w.g (w.g.v.p9 (jE aB)) _
  |key2 k aB hb=>
   rw[eM]at h
   exact ie (Z aB (Gw.refl g)) (λs a w aB=>ie (Z hb w) (λaT b ak hb q am=>ic (Gj ak.g _ (yak aB ak.n) hb) am)) r h
  |key3 k aB hb ai=>
   rw[eM]at h
   exact ie (Z aB (Gw.refl g)) (λs a w aB=>ie (Z hb w) (λaT b ak hb=>ie (Z ai (w.trans ak)) (λG c aM ai q am=>ic (Kb aM.g _ (yak aB (yao ak.n aM.n)) (yak hb aM.n) ai) am))) r h
  |keyN k ay bI=>
   rw[eM]at h
   exact ie (Z ay (Gw.refl g)) (λs a w aB q am=>ic (AS w.g _ aB _ bI) am) r h
  |put k ay bI O=>
   rw[eM]at h
   exact ie (Z ay (Gw.refl g)) (λs a w aB q am=>ic (AT w.g _ aB _ _ bI) am) r h
  |grad k x ay=>
   rw[eM]at h
   cases aL:fw st u x with
   |error q=>rw[aL]at h;exact ic gS h
   |ok v=>
    rw[aL]at h
    have aH:=ow aD ag aL
    exact ie (Z ay (Gw.refl g)) (λs a w aB q am=>ic (Gk w.g _ aB (yak aH w.n)) am) r h
  |jvp k x ay aN=>
   rw[eM]at h
   cases aL:fw st u x with
   |error q=>rw[aL]at h;exact ic gS h
   |ok v=>
    rw[aL]at h
    have aH:=ow aD ag aL
    exact ie (Z ay (Gw.refl g)) (λs a w aB=>ie (Z aN w) (λaT b ak hb q am=>ic (Kc ak.g _ (yak aB ak.n) (yak aH (yao w.n ak.n)) hb) am)) r h
def Gl:List Tok->List Tok->Option Nat
 |_,[]=>none
 |seen,p::r=>if seen.any (λq=>q.text==p.text)=true then some p.pos else Gl (seen++[p]) r
def Kd(ns:List Bdg)(s:List UInt8):Nat:=ns.findIdx λb=>b.nm==s
def LSt.setV(st:LSt)(i:Nat)(s:List UInt8)(v:Nat):LSt:={st with names:=st.names.set i (.val s v)}
def nF(f:Nat)(e:Ex)(i:Nat)(s:List UInt8):Nat->LSt->Option (Rs LSt)
 |0,st=>some (.ok st)
 |k+1,st=>match eM f st [] e with
  |none=>none
  |some (.error q)=>some (.error q)
  |some (.ok (st1,v))=>nF f e i s k (st1.setV i s v)
def qt(s:List UInt8)(r:Rs (LSt×Nat)):Rs LSt:=match r with
 |.error q=>.error q
 |.ok (st,v)=>.ok {st with names:=st.names++[.val s v]}
def NH(r:Rs (LSt×Nat)):Rs LSt:=match r with
 |.error q=>.error q
 |.ok (st,v)=>.ok {st with outs:=st.outs++[(v:Int)]}
def inR(st:LSt)(n l:Tok):Rs LSt:=
 if ii l.text<1\/1000<ii l.text then .error (4,l.pos)
 else if 20<=st.ins.length then .error (5,n.pos)
 else qt n.text (fQ {st with ins:=st.ins++[ii l.text]} (eK 0 (ii l.text) (st.ins.length:Int) 0 0) n.pos)
def Gm(st:LSt)(n:Tok)(ps:List Tok)(e:Ex):Rs LSt:=match Gl [] ps with
 |some p=>.error (3,p)
 |none=>.ok {st with names:=st.names++[.fn n.text ps e]}
def pd(st:LSt)(n:Tok)(r:Option (Rs LSt)):Option (Rs LSt):=match iI st.names n.text with
 |some _=>some (.error (3,n.pos))
 |none=>r
def iz(f:Nat)(st:LSt):Sm->Option (Rs LSt)
 |.outS k e=>if 50<=st.outs.length then some (.error (5,k.pos))else (eM f st [] e).map NH
 |.rep i n e=>match iI st.names n.text with
  |some (.val _ _)=>if 100<ii i.text then some (.error (5,i.pos))else nF f e (Kd st.names n.text) n.text (ii i.text).toNat st
  |_=>some (.error (3,n.pos))
 |.defS n ps e=>pd st n (some (Gm st n ps e))
 |.letS n e=>pd st n ((eM f st [] e).map (qt n.text))
 |.inS n l=>pd st n (some (inR st n l))
def oy(f:Nat):LSt->List Sm->Option (Rs LSt)
 |st,[]=>some (.ok st)
 |st,s::ss=>match iz f st s with
  |none=>none
  |some (.error q)=>some (.error q)
  |some (.ok st1)=>oy f st1 ss
def CM(st:LSt)(r:Rs (LSt×Nat)):Prop:=∀s x,r=.ok (s,x)->st.calls<=s.calls
theorem CM.err{q}:CM st (.error q):=λs x h=>by cases h
theorem CM.back{a}(h:a.calls<=b.calls)(k:CM b r):CM a r:=λs x e=>yao h (k s x e)
theorem kO(st v p):CM st (fQ st v p):=λs x h=>by
 grind[fQ]
theorem xB(n p):∀(xs:List Nat) (st s:LSt) (aU:List Nat),iw n p st xs=.ok (s,aU)->st.calls<=s.calls
 |[],st,s,aU,h=>by grind[iw]
 |i::r,st,s,aU,h=>by
  rw[iw]at h
  split at h
  ·cases aA:fQ st (eK 10 n (i:Int) 0 0) p with
   |error q=>grind
   |ok y=>
    obtain⟨av,j⟩:=y
    rw[aA]at h
    simp only at h
    cases br:iw n p av r with
    |error q=>grind
    |ok y=>
     obtain⟨aT,d⟩:=y
     rw[br]at h
     cases h
     exact yao (kO _ _ p _ j aA) (xB n p r _ _ _ br)
  ·cases br:iw n p st r with
   |error q=>grind
   |ok y=>
    obtain⟨aT,d⟩:=y
    rw[br]at h
    cases h
    exact xB n p r _ _ _ br
theorem xC{s xs p}(h:jN st xs p=.ok (s,aU)):st.calls<=s.calls:=by
 unfold jN at h;split at h
 ·exact xB _ p _ _ s _ h
 cases h
theorem qY(st m p):CM st (iB st m p):=λs x h=>by
 grind[iB]
theorem NJ(st o a b):CM st (qk st o a b):=by
 unfold qk;cases br:jN st [a,b] o.pos with
 |error q=>exact .err
 |ok y=>exact CM.back (xC br) (kO _ _ _)
theorem Ke(st k a b):CM st (ql st k a b):=by
 unfold ql;cases br:jN st [a,b] k.pos with
 |error q=>exact .err
 |ok y=>
  simp only;split
  ·exact CM.back (xC br) (kO _ _ _)
  cases aA:fQ y.1 (eK 4 (eW y.1 (y.2.getD 0 0)) (y.2.getD 0 0:Nat) (y.2.getD 1 0:Nat) 0) k.pos with
  |error q=>exact .err
  |ok z=>exact CM.back (yao (xC br) (kO _ _ _ _ _ aA)) (kO _ _ _)
theorem NK(st k a b c):CM st (wH st k a b c):=by
 unfold wH;cases br:jN st [a,b,c] k.pos with
 |error q=>exact .err
 |ok y=>exact CM.back (xC br) (kO _ _ _)
theorem C7(st k a n):CM st (lO st k a n):=by
 unfold lO;split
 ·split
  ·exact .err
  exact kO _ _ _
 split
 ·exact .err
 split
 ·exact .err
 exact kO _ _ _
theorem C8(st k a i n):CM st (lP st k a i n):=by
 unfold lP;split
 ·exact .err
 split
 ·exact .err
 split
 ·exact .err
 exact kO _ _ _
theorem Kf(st k a x):CM st (pr st k a x):=by
 unfold pr;split
 ·exact .err
 exact qY _ _ _
theorem NL(st k a x d):CM st (pC st k a x d):=by
 unfold pC;split
 ·cases aA:fQ st (eK 10 (eW st x) (d:Int) 0 0) k.pos with
  |error q=>exact .err
  |ok y=>exact CM.back (kO _ _ _ _ _ aA) (qY _ _ _)
 split
 ·exact .err
 exact qY _ _ _
theorem kY{a p}(B:∀r,a=some r->CM st r)(N:∀s x,∀r,p s x=some r->CM s r):∀r,jo a p=some r->CM st r:=λr h=>by
 cases aB:a with
 |none=>rw[aB]at h;cases h
 |some ar=>
  rw[aB]at h
  rcases ar with q|⟨s,x⟩
  ·cases h;exact .err
  ·exact CM.back (B _ aB s x rfl) (N s x r h)
theorem xD{p}(aA:∀s e r,p s e=some r->CM s r):∀(es:List Ex) (st s:LSt) (xs:List Nat),fY p st es=some (.ok (s,xs))->st.calls<=s.calls
 |[],st,s,xs,h=>by grind[fY]
 |e::es,st,s,xs,h=>by
  rw[fY]at h
  cases B:p st e with
  |none=>grind
  |some ar=>
   rw[B]at h
   rcases ar with ax|⟨av,x⟩
   ·cases h
   ·simp only at h
    cases N:fY p av es with
    |none=>grind
    |some aQ=>
     rw[N]at h
     rcases aQ with aF|⟨aT,ys⟩
     ·cases h
     ·cases h
      exact yao (aA _ e _ B _ x rfl) (xD aA _ _ s _ N)
theorem si:∀(f:Nat) (st:LSt) (u:Loc) (e:Ex) (r:Rs (LSt×Nat)),eM f st u e=some r->CM st r
 |0,st,u,e,r,h=>by rw[eM]at h;cases h
 |f+1,st,u,e,r,h=>by
  have Z:∀st u e r,eM f st u e=some r->_:=λst u e r h=>si f _ _ e r h
  have g:∀{st:LSt}{a r:Rs _},CM st a->some a=some r->_:=λh e=>by cases e;exact h
  cases e with
  |num t=>rw[eM]at h;exact g (kO _ _ _) h
  |name t=>
   rw[eM]at h
   cases aL:fw st u t with
   |error q=>rw[aL]at h;exact g .err h
   |ok v=>rw[aL]at h;exact g (λs x e=>by cases e;exact yad) h
  |neg o a=>grind[eM,kY,kO]
  |bin o a b=>rw[eM]at h;exact kY (λr h=>Z _ _ _ r h) (λs x r h=>kY (λr h=>Z _ _ _ r h) (λs x r h=>g (NJ _ _ _ _) h) r h) r h
  |call t es=>
   rw[eM]at h
   cases br:iI st.names t.text with
   |none=>rw[br]at h;exact g .err h
   |some b=>
    rw[br]at h
    cases b with
    |val _ _=>exact g .err h
    |fn aa ps ad=>
     simp only at h
     by_cases c:ps.length=es.length
     ·rw[iv c]at h
      cases aB:fY (λs e=>eM f s u e) st es with
      |none=>rw[aB]at h;cases h
      |some q=>
       rw[aB]at h
       rcases q with q|⟨av,xs⟩
       ·exact g .err h
       ·have ai:=xD (λs e r h=>Z s _ e r h) _ _ _ xs aB
        simp only at h
        by_cases d:500<=av.calls
        ·rw[iv d]at h;exact g .err h
        ·rw[ip d]at h
         exact CM.back (by show st.calls<=av.calls+1;omega) (Z _ _ _ r h)
     ·rw[ip c]at h;exact g .err h
  |key1 k a=>
   grind[eM,kY,kO]
  |key2 k a b=>grind[eM,kY,Ke]
  |key3 k a b c=>grind[eM,kY,NK]
  |keyN k a n=>grind[eM,kY,C7]
  |put k a i n=>rw[eM]at h;exact kY (λr h=>Z _ _ _ r h) (λs x r h=>g (C8 _ _ _ _ _) h) r h
  |grad k a x=>
   rw[eM]at h
   cases aL:fw st u x with
   |error q=>rw[aL]at h;exact g .err h
   |ok v=>rw[aL]at h;exact kY (λr h=>Z _ _ _ r h) (λs x r h=>g (Kf _ _ _ _) h) r h
  |jvp k a x d=>
   rw[eM]at h
   cases aL:fw st u x with
   |error q=>rw[aL]at h;exact g .err h
   |ok v=>grind[kY,NL]
def EvT{α:Type}(E:Nat->Option (Rs α)):Prop:=∃r f,∀g,f<=g->E g=some r
theorem EvT.const{C}(r:Rs C):EvT (λ_=>some r):=⟨r,0,λ_ _=>rfl⟩
theorem EvT.succ{C}{E aB:Nat->Option (Rs C)}(h:∀g,E (g+1)=aB g)(k:EvT aB):EvT E:=by
 obtain⟨r,f,k⟩:=k;refine⟨r,f+1,λg az=>?_⟩;obtain⟨aI,rfl⟩:∃aI,g=aI+1:=⟨g-1,by omega⟩
 grind
theorem EvT.then{A}{p:Nat->LSt->Nat->Option (Rs (LSt×Nat))}(B:EvT A)(N:∀f s x,A f=some (.ok (s,x))->EvT (λg=>p g s x)):EvT (λg=>jo (A g) (p g)):=by
 obtain⟨ar,f1,ap⟩:=B;rcases ar with q|⟨s,x⟩
 ·exact⟨_,_,λg az=>by dsimp only;rw[ap g az];rfl⟩
 obtain⟨aQ,f2,aC⟩:=N _ s x (ap _ yad);exact⟨_,max f1 f2,λg az=>by dsimp only;rw[ap g xaa];exact aC g xaa⟩
theorem zd{p:Nat->LSt->Ex->Option (Rs (LSt×Nat))}(aA:∀g s e r,p g s e=some r->CM s r):∀(es:List Ex) (st:LSt),(∀e∈es,∀s,st.calls<=s.calls->EvT (λg=>p g s e))->EvT (λg=>fY (p g) st es)
 |[],st,_=>⟨.ok (st,[]),0,λg _=>by dsimp only;rw[fY]⟩
 |e::es,st,h=>by
  obtain⟨ar,f1,ap⟩:=h e xac _ yad
  dsimp only at ap
  rcases ar with q|⟨s,x⟩
  ·exact⟨.error q,f1,λg az=>by dsimp only;rw[fY,ap g az]⟩
  ·have aw:=aA _ _ e _ (ap _ yad) s x rfl
   obtain⟨aQ,f2,aC⟩:=zd aA es s (λe ay s' h'=>h e (by simp[ay]) _ (yao aw h'))
   dsimp only at aC
   rcases aQ with q|⟨aT,xs⟩
   ·exact⟨.error q,max f1 f2,λg az=>by dsimp only;rw[fY,ap g xaa];simp only;rw[aC g xaa]⟩
   ·exact⟨.ok (aT,x::xs),max f1 f2,λg az=>by dsimp only;rw[fY,ap g xaa];simp only;rw[aC g xaa]⟩
theorem tP:∀(k n:Nat) (e:Ex),SizeOf.sizeOf e<=n->∀(st:LSt) (u:Loc),501-st.calls<=k->EvT (λg=>eM g st u e)
 |k,0,e,hn,st,u,J=>by cases e<;>simp at hn
 |k,n+1,e,hn,st,u,J=>by
  have sub:∀(a:Ex),SizeOf.sizeOf a<=n->∀s,st.calls<=s.calls->EvT (λg=>eM g s u a):=λa aB s aw=>tP k n a aB s u xaa
  have b4:∀{g:Nat}{a:Ex}{s s':LSt}{x:Nat},eM g s u a=some (.ok (s',x))->_:=λh=>si _ _ _ _ _ h _ _ rfl
  cases e with
  |num t=>exact .succ (λg=>by rw[eM]) (.const _)
  |name t=>exact .succ (λg=>by rw[eM]) (.const _)
  |neg o a=>exact .succ (λg=>by rw[eM]) (.then (sub a (by simp at hn;omega) st yad) (λf s x h=>.const _))
  |bin o a b=>exact .succ (λg=>by rw[eM]) (.then (sub a (by simp at hn;omega) st yad) (λf s x h=>.then (sub b (by simp at hn;omega) s (b4 h)) (λf s x h=>.const _)))
  |call t es=>
   refine .succ (λg=>by rw[eM]) ?_
   cases br:iI st.names t.text with
   |none=>exact .const _
   |some b=>
    cases b with
    |val _ _=>exact .const _
    |fn aa ps ad=>
     simp only
     by_cases c:ps.length=es.length
     ·simp only[iv c]
      obtain⟨H,f1,ap⟩:=zd (p:=λg s e=>eM g s u e) (λg s e r h=>si g s u e r h) es st (λe ay s aw=>sub e (by have:=List.sizeOf_lt_of_mem ay;simp at hn;omega) s aw)
      dsimp only at ap
      rcases H with q|⟨av,xs⟩
      ·exact⟨.error q,f1,λg az=>by dsimp only;rw[ap g az]⟩
      ·have aw:=xD (p:=λs e=>eM f1 s u e) (λs e r h=>si f1 s u e r h) es st av xs (ap f1 yad)
       by_cases d:500<=av.calls
       ·exact⟨.error (5,t.pos),f1,λg az=>by dsimp only;rw[ap g az];simp only;rw[iv d]⟩
       ·match k,J with
        |0,J=>omega
        |k+1,J=>
         obtain⟨aQ,f2,aC⟩:=tP k (SizeOf.sizeOf ad) ad yad {av with calls:=av.calls+1} ((ps.map (·.text)).zip xs) (by show 501-(av.calls+1)<=k;omega)
         dsimp only at aC
         exact⟨aQ,max f1 f2,λg az=>by dsimp only;rw[ap g xaa];simp only;rw[ip d];exact aC g xaa⟩
     ·simp only[ip c];exact .const _
  |key1 y a=>exact .succ (λg=>by rw[eM]) (.then (sub a (by simp at hn;omega) st yad) (λf s x h=>.const _))
  |key2 y a b=>exact .succ (λg=>by rw[eM]) (.then (sub a (by simp at hn;omega) st yad) (λf s x h=>.then (sub b (by simp at hn;omega) s (b4 h)) (λf s x h=>.const _)))
  |key3 y a b c=>exact .succ (λg=>by rw[eM]) (.then (sub a (by simp at hn;omega) st yad) (λf s x h=>.then (sub b (by simp at hn;omega) s (b4 h)) (λf aT x N=>.then (sub c (by simp at hn;omega) aT (yao (b4 h) (b4 N))) (λf s x h=>.const _))))
  |keyN y a m=>exact .succ (λg=>by rw[eM]) (.then (sub a (by simp at hn;omega) st yad) (λf s x h=>.const _))
  |put y a i m=>exact .succ (λg=>by rw[eM]) (.then (sub a (by simp at hn;omega) st yad) (λf s x h=>.const _))
  |grad y a x=>
   refine .succ (λg=>by rw[eM]) ?_
   cases fw st u x with
   |error q=>exact .const _
   |ok v=>exact .then (sub a (by simp at hn;omega) st yad) (λf s x h=>.const _)
  |jvp y a x d=>
   refine .succ (λg=>by rw[eM]) ?_
   cases fw st u x with
   |error q=>exact .const _
   |ok v=>exact .then (sub a (by simp at hn;omega) st yad) (λf s x h=>.then (sub d (by simp at hn;omega) s (b4 h)) (λf s x h=>.const _))
termination_by k n=>(k,n)
theorem tQ(st u e):EvT (λg=>eM g st u e):=tP _ _ e yad st u yad
theorem BM(e i s):∀(k:Nat) (st:LSt),EvT (λg=>nF g e i s k st)
 |0,st=>⟨.ok st,0,λg _=>by dsimp only;rw[nF]⟩
 |k+1,st=>by
  obtain⟨ar,f1,ap⟩:=tQ st [] e
  dsimp only at ap
  rcases ar with q|⟨av,v⟩
  ·exact⟨.error q,f1,λg az=>by dsimp only;rw[nF,ap g az]⟩
  ·obtain⟨aQ,f2,aC⟩:=BM e i s k (av.setV i s v)
   exact⟨aQ,max f1 f2,λg az=>by dsimp only;rw[nF,ap g xaa];exact aC g xaa⟩
theorem Gn(st s):EvT (λg=>iz g st s):=by
 cases s with
 |outS k e=>
  simp only[iz];by_cases c:50<=st.outs.length
  ·simp only[iv c];exact .const _
  simp only[ip c];obtain⟨r,f,h⟩:=tQ st [] e;dsimp only at h;exact⟨NH r,f,λg az=>by dsimp only;rw[h g az];rfl⟩
 |rep i n e=>
  simp only[iz];cases iI st.names n.text with
  |none=>exact .const _
  |some b=>
   cases b with
   |fn _ _ _=>exact .const _
   |val _ _=>
    simp only;by_cases c:100<ii i.text
    ·simp only[iv c];exact .const _
    simp only[ip c];exact BM _ _ _ _ _
 |defS n ps e=>simp only[iz,pd];cases iI st.names n.text<;>exact .const _
 |inS n l=>simp only[iz,pd];cases iI st.names n.text<;>exact .const _
 |letS n e=>
  simp only[iz,pd];cases iI st.names n.text with
  |some _=>exact .const _
  |none=>
   obtain⟨r,f,h⟩:=tQ st [] e;dsimp only at h;exact⟨qt n.text r,f,λg az=>by dsimp only;rw[h g az];rfl⟩
theorem ze:∀(af:List Sm) (st:LSt),EvT (λg=>oy g st af)
 |[],st=>⟨.ok st,0,λg _=>by dsimp only;rw[oy]⟩
 |s::af,st=>by
  obtain⟨ar,f1,ap⟩:=Gn st s
  dsimp only at ap
  rcases ar with q|av
  ·exact⟨.error q,f1,λg az=>by dsimp only;rw[oy,ap g az]⟩
  ·obtain⟨aQ,f2,aC⟩:=ze af av
   exact⟨aQ,max f1 f2,λg az=>by dsimp only;rw[oy,ap g xaa];exact aC g xaa⟩
theorem xE{i}(k)(h:okV ins vs i=true):okV (ins++[k]) vs i=true:=by
 unfold okV at h⊢;by_cases c:(vs.getD i i0).op=0
 ·rw[iv c]at h⊢;simp only[Bool.and_eq_true]at h⊢;obtain⟨B,N,h3⟩:=h;unfold gn at N⊢;grind
 grind
theorem Kg(ins vs){k}(J:1<=k/\k<=1000):okV (ins++[k]) (vs++[eK 0 k (ins.length:Int) 0 0]) vs.length=true:=by
 have aL:(vs++[eK 0 k (ins.length:Int) 0 0]).getD vs.length i0=eK 0 k (ins.length:Int) 0 0:=by
  rw[yai,yas yad,Nat.sub_self];rfl
 unfold okV;rw[aL,iv (show(eK 0 k (ins.length:Int) 0 0).op=0 from rfl)];simp only[Bool.and_eq_true];refine⟨⟨?_,?_⟩,?_,?_⟩
 ·show lenB k=true;unfold lenB;exact decide_eq_true J
 ·simp[fL,cnt,gH]
 ·show gn (ins.length:Int) _=true;unfold gn;exact decide_eq_true ⟨by omega,by rw[yal];simp only[List.length_singleton];omega⟩
 show(k==(ins++[k]).getD ((ins.length:Int)).toNat 0)=true;rw[Int.toNat_natCast,yai,yas yad,Nat.sub_self];simp
theorem L5(g:Gd st)(k)(h:st.ins.length<20):Gd {st with ins:=st.ins++[k]}:=
 ⟨g.n,g.c,List.all_eq_true.2 (λi hi=>xE k (List.all_eq_true.1 g.ok i hi)),g.k,by grind,g.o,g.m⟩
theorem L6(g:Gd st){k}(J:1<=k/\k<=1000):GVal (st.ins++[k]) (st.vs++[eK 0 k (st.ins.length:Int) 0 0]):=by
 refine⟨λi hi=>?_,tK g.k (by grind)⟩;rw[yal,List.length_singleton]at hi;by_cases c:i<st.vs.length
 ·exact rS c (xE k (g.v.1 i c))
 grind[Kg]
def Pn:Sm->Prop
 |.inS _ l=>Dgs l.text
 |.letS _ e=>EOK e
 |.rep i _ e=>Dgs i.text/\EOK e
 |.defS _ _ e=>EOK e
 |.outS _ e=>EOK e
structure Sg(a b:LSt):Prop where
 g:Gd b
 nm:NmOK b
 n:a.vs.length<=b.vs.length
 m:b.names.length<=a.names.length+1
theorem BN(h:NmOK st){b}(hb:BOK st.vs.length b):NmOK {st with names:=st.names++[b]}:=λx aH=>by
 rcases List.mem_append.1 (show x∈st.names++[b] from aH) with c|c
 ·exact h x c
 simp_all
theorem BO(g:Gd st)(b)(h:st.names.length<5000):Gd {st with names:=st.names++[b]}:=
 ⟨g.n,g.c,g.ok,g.k,g.i,g.o,by grind⟩
theorem NM(g:Gd st)(v)(h:st.outs.length<50):Gd {st with outs:=st.outs++[v]}:=
 ⟨g.n,g.c,g.ok,g.k,g.i,by grind,g.m⟩
theorem vl{d s}(aD:st.names.length=d.names.length)(hn:d.vs.length<=st.vs.length)(aa:NmOK st)(bU:d.names.length<5000)(au:RsG st r)(h:qt t r=.ok s):Sg d s:=by
 rcases r with q|⟨av,v⟩
 ·cases h
 cases h;obtain⟨w,aL⟩:=au _ v rfl;exact⟨BO w.g _ (by rw[w.m,aD];exact bU),BN (aa.gw w) aL,yao hn w.n,by show(av.names++[_]).length<=_;rw[yal,w.m,aD];simp⟩
theorem zh{f e}(ay:EOK e)(i s):∀(k:Nat) (st s':LSt),Gd st->NmOK st->nF f e i s k st=some (.ok s')->Gd s'/\NmOK s'/\st.vs.length<=s'.vs.length/\s'.names.length=st.names.length
 |0,st,s',g,aa,h=>by grind[nF]
 |k+1,st,s',g,aa,h=>by
  rw[nF]at h
  cases B:eM f st [] e with
  |none=>grind
  |some ar=>
   rw[B]at h
   rcases ar with q|⟨av,v⟩
   ·cases h
   ·obtain⟨w,aL⟩:=gc f _ _ e g aa (λb hb=>by cases hb) ay _ B _ v rfl
    have a2:Gd (av.setV i s v):=⟨w.g.n,w.g.c,w.g.ok,w.g.k,w.g.i,w.g.o,by show(av.names.set i _).length<=5000;rw[List.length_set];exact w.g.m⟩
    have ae:NmOK (av.setV i s v):=λb hb=>by
     rcases List.mem_or_eq_of_mem_set (show b∈av.names.set i _ from hb) with c|c
     ·exact aa.gw w b c
     ·subst c;exact aL
    obtain⟨ap,aC,a9,bS⟩:=zh ay i s k _ _ a2 ae h
    exact⟨ap,aC,yao w.n a9,by rw[bS];show(av.names.set i _).length=_;rw[List.length_set,w.m]⟩
theorem C9{s' s}(g:Gd st)(aa:NmOK st)(bU:st.names.length<5000)(aw:Pn s)(h:iz f st s=some (.ok s')):Sg st s':=by
 cases s with
 |outS k e=>
  simp only[iz]at h;by_cases c:50<=st.outs.length
  ·grind
  rw[ip c]at h;cases B:eM f st [] e with
  |none=>grind
  |some ar=>
   rw[B]at h;rcases ar with q|⟨av,v⟩
   ·cases h
   obtain⟨w,aL⟩:=gc f _ _ e g aa (λb hb=>by cases hb) aw _ B _ v rfl;cases h;exact⟨NM w.g _ (jx w.o),(λb hb=>aa.gw w b hb),w.n,by show av.names.length<=_;rw[w.m];omega⟩
 |rep i n e=>
  simp only[iz]at h;split at h
  ·split at h
   ·cases h
   obtain⟨ap,aC,a9,bS⟩:=zh aw.2 _ _ _ _ _ g aa h;exact⟨ap,aC,a9,by omega⟩
  cases h
 |defS n ps e=>
  simp only[iz,pd]at h;split at h
  ·cases h
  simp only[Gm]at h;split at h
  ·cases h
  cases h;exact⟨BO g _ bU,BN aa aw,yad,by simp_all⟩
 |letS n e=>
  simp only[iz,pd]at h;split at h
  ·cases h
  cases B:eM f st [] e with
  |none=>grind
  |some ar=>
   rw[B]at h;exact vl rfl yad aa bU (gc f _ _ e g aa (λb hb=>by cases hb) aw _ B) (ix h)
 |inS n l=>
  simp only[iz,pd]at h;split at h
  ·cases h
  simp only[inR]at h;split at h
  ·cases h
  split at h
  ·cases h
  rename_i c1 c2;have J:1<=ii l.text/\ii l.text<=1000:=xaa;exact vl (st:={st with ins:=st.ins++[ii _]}) rfl yad aa bU (jQ (L5 g _ xaa) (L6 g J) _) (ix h)
theorem zi(s):mg s≠ik/\mg s≠kK:=by
 unfold mg;split
 ·rename_i h;constructor
  ·rintro rfl;revert h;decide
  rintro rfl;revert h;decide
 exact⟨by decide,by decide⟩
theorem zj(x):kT x≠ik/\kT x≠kK:=by
 grind[kT,ik,kK]
theorem BP{i}(hi:i<t.length)(h:(nxT t i).sym=ik):∀k,k<(nxT t i).text.length->48<=bt (nxT t i).text k/\bt (nxT t i).text k<=57:=by
 unfold nxT at h⊢;split at h
 ·exact absurd h (zi _).1
 split at h
 ·rename_i c1 c2;rw[ip c1,iv c2];simp only at h⊢;unfold sH at h;split at h
  ·exact absurd h xab
  rename_i c3;have e:rI t i=gG dig t i:=by unfold rI;grind
  rw[e];intro k J;rw[yh (lE _ t i xaa)]at J;rw[E4 J];exact sG (yg i _ xaa xaa)
 exact absurd h (zj _).1
theorem zk(t i):∀aa∈kH t i,aa.sym=ik->∀k,k<aa.text.length->48<=bt aa.text k/\bt aa.text k<=57:=by
 intro aa aD aw;rw[kH]at aD;split at aD
 ·rename_i h;split at aD
  ·simp_all[BP]
  rcases List.mem_cons.1 aD with c|c
  ·subst c;exact BP h aw
  exact zk t _ _ c aw
 cases aD
termination_by t.length-i
decreasing_by
 grind[sI,py]
theorem NO{l}(h:∀k,k<l.length->48<=bt l k/\bt l k<=57)(hn:kr l):Dgs l:=by
 refine⟨?_,h⟩
 have ai:(gX l).countP dig=(gX l).length:=by
  rw[List.countP_eq_length];intro x aH;unfold gX at aH;obtain⟨b,hb,rfl⟩:=List.mem_map.1 aH;obtain⟨k,J,rfl⟩:=List.getElem_of_mem hb;have:=h k J;unfold bt at this;rw[yai,yam J]at this;simp only[Option.getD_some]at this;simp[dig];omega
 have N:=hn.2;rw[ai]at N;unfold gX at N;grind
def isN(tk:Tok):Prop:=tk.sym=ik\/tk.sym=kK
def Gp(x:List UInt8)(c:Int):Prop:=(¬v7 (gX x)/\c=2)\/(v7 (gX x)/\15<(gX x).countP dig/\c=5)
theorem zl{x}(h:RN (gX x) f c):(kr x/\c=0)\/(Gp x c/\c≠0):=by
 rcases h with⟨B,_,N⟩|⟨B,N,_,h3⟩|⟨B,N,_,_,h3⟩
 ·exact .inr ⟨.inl ⟨B,N⟩,by omega⟩
 ·exact .inr ⟨.inr ⟨B,N,h3⟩,by omega⟩
 exact .inl ⟨⟨B,N⟩,h3⟩
def LSt.zero:LSt:=⟨[],[],[],[],0⟩
theorem Kh:Gd LSt.zero:=⟨by decide,by decide,by decide,λv aL=>(by cases aL),by decide,by decide,by decide⟩
theorem Ki:NmOK LSt.zero:=λb hb=>by cases hb
theorem Da{s af r}(h:oy f st (s::af)=some r):∃ar,iz f st s=some ar/\(∀q,ar=.error q->r=.error q)/\(∀av,ar=.ok av->oy f av af=some r):=by
 grind[oy]
end
section
attribute[local go_sem] eE eC eB
theorem Kj{W P}(bU:W.cell? ⟨P,5,none⟩=some (ih 0))(bz:W.cell? ⟨P,6,none⟩=some (ih 0))(fr:∀o,W.frozen? ⟨P,o,none⟩=false)(c)(p:Nat)(M)(bE:M P):
  Calls prog 101 #[ge P,ih c,ih p] W λe F=>e=.returned (ih (-1))/\Bad W P M c p F/\∀o,o≠5->o≠6->F.cell? ⟨P,o,none⟩=W.cell? ⟨P,o,none⟩:=by
 have q:=fr 5;have am:=fr 6;have R1:V (((W.setCell _ _).setCell ⟨P,6,_⟩ (ih p)).cell? _=some (ih c)):=(eG _ _ _ _ _ _ (.inr xaa)).trans (fc _ _ _ _ _ bU);have R2:V (((W.setCell ⟨P,5,_⟩ (ih c)).setCell _ (ih p)).cell? _=some _):=fc _ _ _ _ _ ((eG _ _ _ _ _ _ (.inr xaa)).trans bz);have R3:V _:=Chg.andThen ((eU W ⟨P,5,none⟩ (ih c) yac).chg1 bE) ((eU _ ⟨P,6,none⟩ (ih p) yac).chg1 bE);have dp:V (∀o,o≠5->o≠6->((W.setCell ⟨P,5,_⟩ (ih c)).setCell ⟨P,6,_⟩ (ih p)).cell? ⟨P,o,_⟩=W.cell? _):=λo B N=>(eG _ _ _ _ _ _ (.inr (λe=>N e.symm))).trans (eG _ _ _ _ _ _ (.inr (λe=>B e.symm)));clear fr bE;go_enter func101,ntmps101;go_wp2;go_ret;exact⟨rfl,⟨R1.o,R2.o,R3.o⟩,dp.o⟩
theorem T.qas(h:Zp:=by
 go_region_law
  ((refine step_append_lies _ rfl _ _ _ rfl I 79 _ _ 6 _ underlying71 hi cg b8 cc rfl xab _ _ _ (by simp[Act.eval]) (kN bi.o 1 _) _ 1 1 _ (by simp[Act.eval]) rfl (Bw _ _ _) (EP v) xab (by unfold maxLen;omega) xaa yag _ rfl ?_;intro g9 cap9 a7 Z bp br cr;have a0:=jS bp cx HR.o.1 c1;have bT:=far2 bp cx HR.o.1 cD;have av:=jS bp b HR.o.2 B;have aT:=jS bp b HR.o.2 bf;have G:=jS bp b HR.o.2 bb;have cB:=jS bp b HR.o.2 bc;have ck:=jS bp b HR.o.2 C;have aq:=jS bp b HR.o.2 au))
 all_goals
  have bE:=br.imp id (λe=>Nat.le_of_eq e.symm)
  have aV:=(eA 0 0 aK (.cells #[ih v.op,ih v.len,ih v.a,ih v.b,ih v.c,.float .f64 v.k] 79)).trans (eJ 0 0 _ 1)
  have d:a7.ownsRow I 79 6 (ia g9 (aZ+1) cap9) (aZ+1) (fU (st.vs++[v])):=by rw[mi,qe];exact Z
  obtain⟨(u:V _),af⟩:=(b4.o.keep aV).vals (fA bp) (by rw[yal,bu.o];rfl) d bE
  have bn:V _:=(aH.o.keep aV).trans af
  clear af bE aV Z d bp br cr a0 bT av aT G cB ck aq B bf bb bc C au cD c1 bi b4 aH
  generalize a7.setCell ⟨P,1,_⟩ _=cA at u bn⊢
  obtain⟨a1,bH,a2',bJ,a3,cb,ad,be,ah,N⟩:=u.o.gs bN.o
  simp only at ad ah N
  subst ad ah
  have aO:V _:=AN _ _ _ _ _ bH _ bJ _ cb _ _ _ N aC.o
  have l:(st.vs++[v]).length=aZ+1:=by rw[yal,bu.o];rfl
  have bD:V _:=λF=>iV F a1 a2' a3 st.ins.length bH (aZ+1) bJ st.outs.length cb xaa
  rw[l]at aO be
  clear N
  have a8:=u.o.c0
  have aJ:=u.o.c1
  have aP:=u.o.c2
  cases be
  cases hb:kq (st.vs++[v])
  ·rw[hb]at aO b1
   have ae:V _:=b1.o.trans (ip xac)
   have f:V (∀F,Kept 0 0 _ F->F.cell? _=some _/\F.cell? _=some _/\F.cell? _=some _):=λF k=>⟨(u.o.keep k).c0,(u.o.keep k).c1,(u.o.keep k).c2⟩
   clear hb b1
   go_wp2_with (first
    |(go_at_call 120;refine yaj aO.o ?_;rintro e cP ⟨rfl,Y⟩;obtain⟨aU,ax,aF⟩:=f.o _ Y)
    |(go_at_call 66;refine yaj (bD.o _) ?_;rintro e b0 ⟨rfl,aa⟩))
   go_ret
   rw[ae.o]
   exact⟨⟨by simp,_,_,_,_,(u.o.keep Y).keep aa,(bn.o.keep Y).keep aa⟩,((u.o.keep Y).keep aa).c0⟩
  ·rw[hb]at aO b1
   have ae:V _:=b1.o.trans (iv rfl)
   have bo:V (∀F,Kept 0 0 _ F->_):=λF k=>Kj (u.o.keep k).c5 (u.o.keep k).c6 (u.o.keep k).fr 5 p (Mst P (.slice a1 st.ins.length bH) (ia g9 (aZ+1) cap9) (.slice a3 st.outs.length cb) u4) (.inl rfl)
   clear hb b1
   go_wp2_with (first
    |(go_at_call 120;refine yaj aO.o ?_;rintro e cP ⟨rfl,Y⟩)
    |(go_at_call 101;refine yaj (bo.o _ Y) ?_;rintro e b0 ⟨rfl,ba,q⟩))
   go_ret
   rw[ae.o]
   exact⟨⟨rfl,ba.c5,ba.c6,(bn.o.keep Y).bad ba.chg⟩,(q 0 xab xab).trans (u.o.keep Y).c0⟩):Zp:=h
open T in
theorem NP{W P I u1 u2 u3 u4 bs st}(h:WS W P I u1 u2 u3 u4 bs st)(g:Gd st)(v)(aL:1<=v.len/\v.len<=1000)(ak:v.k<18446744073709551616)(p:Nat):
  Calls prog 105 #[ge P,v.agg,ih p] W (λe F=>TrO W P I u1 u2 u3 u4 bs (fQ st v p) e F/\F.cell? ⟨P,0,none⟩=some u1):=by
 exact qar
