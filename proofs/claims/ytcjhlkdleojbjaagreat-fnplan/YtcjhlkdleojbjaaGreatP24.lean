import Derived.Test.YtcjhlkdleojbjaaGreatP22
namespace Go.Proofs.Z
variable{Zp:Prop}
open Tryz Go.RowKit Flt
set_option maxRecDepth 1000000
set_option maxHeartbeats 0
section
variable{ins:List Int}{st b R:LSt}{f a s x k:Nat}{vs0 vs us:List Vl}{j op c q:Int}{aY:List Nat}{t:List UInt8}{r:Rs (LSt×Nat)}
def GVal(ins:List Int)(vs:List Vl):Prop:=(∀i,i<vs.length->okV ins vs i=true)/\∀v∈vs,v.k<18446744073709551616
def Ln(vs:List Vl)(j n:Int):Prop:=0<=j/\j<(vs.length:Int)/\(vs.getD j.toNat hF).len=n
theorem Ln.app{n}(h:Ln vs j n)(us):Ln (vs++us) j n:=by
 obtain⟨F,N,h3⟩:=h;refine⟨F,by grind,?_⟩;grind
theorem il(vs v){n}(hj:j=(vs.length:Int))(aO:v.len=n):Ln (vs++[v]) j n:=by
 subst hj;refine⟨by omega,by grind,?_⟩;simp_all
theorem GVal.len(g:GVal ins vs){n}(h:Ln vs j n):1<=n/\n<=1000:=by
 obtain⟨F,N,h3⟩:=h;have:=fU (g.1 j.toNat xaa);omega
theorem GVal.push(g:GVal ins vs)(v)(al:v.op≠0)(af:1<=v.len/\v.len<=1000)(O:v.k<18446744073709551616)(au:fW v=true)(ho:∀o∈fe v,0<=o/\o<(vs.length:Int))(h:eV v.op v.len v.c ((fe v).map λo=>(vs.getD o.toNat hF).len)=true):GVal ins (vs++[v]):=by
 refine⟨λi hi=>?_,uj g.2 O⟩;rw[yal,List.length_singleton]at hi;by_cases c:i<vs.length
 ·exact wI c (g.1 i c)
 grind[Cv]
theorem GVal.p1(g:GVal ins vs){n}(ad:1<=n/\n<=1000)(O:k<18446744073709551616):GVal ins (vs++[⟨1,n,0,0,0,k⟩]):=
 g.push _ (by grind) ad O (by simp[fW,cnt,iU]) (by intro o h;simp[fe,cnt]at h) (by simp[fe,cnt,eV])
theorem GVal.z(g:GVal ins vs){n}(ad:1<=n/\n<=1000):GVal ins (vs++[eK 1 n 0 0 0]):=g.p1 ad xab
theorem GVal.two(g:GVal ins vs){n p}(ho:op=2\/op=3\/op=4\/op=5\/op=7)(aM:Ln vs p n)(ap:Ln vs q n):GVal ins (vs++[eK op n p q 0]):=by
 have ad:=g.len aM;obtain⟨bu,p2,z⟩:=aM;rw[yai]at z;obtain⟨aC,aL,b1⟩:=ap;rw[yai]at b1;refine g.push _ (by grind) ad (by grind) ?_ ?_ ?_
 ·rcases ho with rfl|rfl|rfl|rfl|rfl<;>grind[fW,cnt]
 ·grind[fe]
 rcases ho with rfl|rfl|rfl|rfl|rfl<;>grind[fe,cnt,eV]
theorem GVal.one(g:GVal ins vs){n p}(ho:op=6\/op=13)(aM:Ln vs p n):GVal ins (vs++[eK op n p 0 0]):=by
 have ad:=g.len aM;obtain⟨bu,p2,z⟩:=aM;rw[yai]at z;refine g.push _ (by grind) ad (by grind) ?_ ?_ ?_
 ·grind[fW,cnt]
 ·grind[fe]
 rcases ho with rfl|rfl<;>simp[fe,cnt,eV,z]
theorem GVal.sel(g:GVal ins vs){n d p}(aK:Ln vs d n)(aM:Ln vs p n)(ap:Ln vs q n):GVal ins (vs++[eK 8 n d p q]):=by
 have ad:=g.len aM;obtain⟨aH,bf,Y⟩:=aK;rw[yai]at Y;obtain⟨bu,p2,z⟩:=aM;rw[yai]at z;obtain⟨aC,aL,b1⟩:=ap;rw[yai]at b1;refine g.push _ (by grind) ad (by grind) ?_ ?_ ?_
 ·simp[fW,cnt,iU]
 ·grind[fe]
 simp[fe,cnt,eV,Y,z,b1]
theorem GVal.p9(g:GVal ins vs){l p}(aM:Ln vs p l):GVal ins (vs++[eK 9 1 p 0 0]):=by
 have ad:=g.len aM;obtain⟨bu,p2,z⟩:=aM;rw[yai]at z;refine g.push _ (by grind) ⟨by grind,by grind⟩ (by grind) ?_ ?_ ?_
 ·simp[fW,cnt,iU]
 ·grind[fe]
 simp[fe,cnt,eV,z,lenB,ad]
theorem GVal.p10(g:GVal ins vs){n p}(ad:1<=n/\n<=1000)(aM:Ln vs p 1):GVal ins (vs++[eK 10 n p 0 0]):=by
 obtain⟨bu,p2,z⟩:=aM;rw[yai]at z;refine g.push _ (by grind) ad (by grind) ?_ ?_ ?_
 ·simp[fW,cnt,iU]
 ·grind[fe]
 simp[fe,cnt,eV,z]
theorem GVal.p11(g:GVal ins vs){l p}(aM:Ln vs p l)(ah:0<=c/\c<l):GVal ins (vs++[eK 11 1 p 0 c]):=by
 have ad:=g.len aM;obtain⟨bu,p2,z⟩:=aM;rw[yai]at z;refine g.push _ (by grind) ⟨by grind,by grind⟩ (by grind) ?_ ?_ ?_
 ·simp[fW,cnt,iU]
 ·grind[fe,cnt]
 grind[fe,cnt,eV,lenB,fR]
theorem GVal.p12(g:GVal ins vs){n p}(ad:1<=n/\n<=1000)(aM:Ln vs p 1)(ah:0<=c/\c<n):GVal ins (vs++[eK 12 n p 0 c]):=by
 obtain⟨bu,p2,z⟩:=aM;rw[yai]at z;refine g.push _ (by grind) ad (by grind) ?_ ?_ ?_
 ·simp[fW,cnt,iU]
 ·grind[fe,cnt]
 simp[fe,cnt,eV,z,fR,ah]
def Put(ins:List Int)(vs:List Vl)(n:Int)(M:List Vl×Int):Prop:=GVal ins (vs++M.1)/\Ln (vs++M.1) M.2 n
def xX(ins:List Int)(vs:List Vl)(n:Int)(M:List Vl×Int):Prop:=GVal ins (vs++M.1)/\(M.2=-1\/Ln (vs++M.1) M.2 n)
theorem Put.o{n M}(h:Put ins vs n M):xX ins vs n M:=⟨h.1,.inr h.2⟩
section
variable{ins:List Int}{vs:List Vl}{n r:Int}
theorem Ho(g:GVal ins vs)(h:Ln vs r n):Put ins vs n ([],r):=⟨by simpa using g,by simpa using h⟩
theorem Ep(g:GVal ins vs):xX ins vs n ([],-1):=⟨by simpa using g,.inl rfl⟩
theorem put1{a}(g:GVal ins (vs++[a]))(h:a.len=n)(aD:r=(vs.length:Int)):Put ins vs n ([a],r):=⟨g,il vs a aD h⟩
theorem put2{a b}(g:GVal ins ((vs++[a])++[b]))(h:b.len=n)(aD:r=((vs.length+1:Nat):Int)):Put ins vs n ([a,b],r):=by
 have N:=il (vs++[a]) b (j:=r) (by grind) h;rw[List.append_assoc]at g N;exact⟨g,N⟩
theorem put3{a b c}(g:GVal ins (((vs++[a])++[b])++[c]))(h:c.len=n)(aD:r=((vs.length+2:Nat):Int)):Put ins vs n ([a,b,c],r):=by
 have N:=il ((vs++[a])++[b]) c (j:=r) (by rw[aD];simp) h;simp only[List.append_assoc]at g N;exact⟨g,N⟩
theorem QA{a b c d}(g:GVal ins ((((vs++[a])++[b])++[c])++[d]))(h:d.len=n)(aD:r=((vs.length+3:Nat):Int)):Put ins vs n ([a,b,c,d],r):=by
 have N:=il (((vs++[a])++[b])++[c]) d (j:=r) (by rw[aD];simp) h;simp only[List.append_assoc]at g N;exact⟨g,N⟩
end
def jd(vs:List Vl)(j:Int):Int:=(vs.getD j.toNat hF).len
section
variable{ins:List Int}{vs:List Vl}{i:Nat}{v:Vl}
theorem li(ok:okV ins vs i=true)(e:vs.getD i hF=v)(al:v.op≠0):eV v.op v.len v.c ((fe v).map λo=>jd vs o)=true/\fW v=true:=by
 unfold okV at ok;rw[e,hC al,Bool.and_eq_true,Bool.and_eq_true,Bool.and_eq_true]at ok;exact⟨ok.2.2,ok.1.2⟩
theorem pM(ok:okV ins vs i=true)(hi:i<vs.length)(e:vs.getD i hF=v){q}(ap:q<cnt v.op):Ln vs (fld v q) (jd vs (fld v q)):=by
 have h:=mn ok q (by grind);rw[e]at h;exact⟨h.1,by omega,rfl⟩
theorem Hp(ok:okV ins vs i=true)(_hi:i<vs.length)(e:vs.getD i hF=v)(ho:v.op=2\/v.op=3\/v.op=4\/v.op=5\/v.op=7):cnt v.op=2/\jd vs v.a=v.len/\jd vs v.b=v.len:=by
 have h:=(li ok e xaa).1;have ah:cnt v.op=2:=by rcases ho with c|c|c|c|c<;>(rw[c];rfl)
 grind[fe,eV]
theorem xY(ok:okV ins vs i=true)(e:vs.getD i hF=v)(ho:v.op=6\/v.op=13):cnt v.op=1/\jd vs v.a=v.len/\v.c=0:=by
 grind[li,cnt,iU,fe,eV,fW]
theorem Hq(ok:okV ins vs i=true)(e:vs.getD i hF=v)(ho:v.op=8):cnt v.op=3/\jd vs v.a=v.len/\jd vs v.b=v.len/\jd vs v.c=v.len:=by
 grind[li,cnt,fe,eV]
theorem PR(ok:okV ins vs i=true)(e:vs.getD i hF=v)(ho:v.op=9):cnt v.op=1/\v.len=1/\v.c=0:=by
 obtain⟨h,au⟩:=li ok e xaa;grind[cnt,iU,eV,fW]
theorem M3(ok:okV ins vs i=true)(e:vs.getD i hF=v)(ho:v.op=10):cnt v.op=1/\jd vs v.a=1/\v.c=0:=by
 grind[li,cnt,iU,fe,eV,fW]
theorem M4(ok:okV ins vs i=true)(e:vs.getD i hF=v)(ho:v.op=11):cnt v.op=1/\v.len=1/\0<=v.c/\v.c<jd vs v.a:=by
 grind[li,cnt,fe,eV,fR]
theorem M5(ok:okV ins vs i=true)(e:vs.getD i hF=v)(ho:v.op=12):cnt v.op=1/\jd vs v.a=1/\0<=v.c/\v.c<v.len:=by
 grind[li,cnt,fe,eV,fR]
theorem Hr(ok:okV ins vs i=true)(e:vs.getD i hF=v):v.op=0\/(1<=v.op/\v.op<=13):=by
 by_cases al:v.op=0
 ·exact .inl al
 have h:=(li ok e al).1;grind[eV]
theorem KN(g:GVal ins vs){n p q}(aM:p=-1\/Ln vs p n)(ap:q=-1\/Ln vs q n):xX ins vs n (yJ n p q vs.length):=by
 unfold yJ;by_cases c:p=-1
 ·rw[hD c];rcases ap with rfl|ap
  ·exact Ep g
  exact(Ho g ap).o
 have h:=aM.resolve_left c;rw[hC c];by_cases d:q=-1
 ·rw[hD d];exact(Ho g h).o
 rw[hC d];exact(put1 (g.two (.inl rfl) h (ap.resolve_left d)) rfl rfl).o
theorem KO(g:GVal ins vs){n p q}(aM:p=-1\/Ln vs p n)(ap:q=-1\/Ln vs q n):xX ins vs n (yK n p q vs.length):=by
 unfold yK;by_cases d:q=-1
 ·rw[hD d];rcases aM with rfl|aM
  ·exact Ep g
  exact(Ho g aM).o
 have u:=ap.resolve_left d;rw[hC d];by_cases c:p=-1
 ·rw[hD c];exact(put1 (g.one (.inl rfl) u) rfl rfl).o
 rw[hC c];exact(put1 (g.two (.inr (.inl rfl)) (aM.resolve_left c) u) rfl rfl).o
theorem Hs(g:GVal ins vs){n d p q}(aK:Ln vs d n)(aM:p=-1\/Ln vs p n)(ap:q=-1\/Ln vs q n):Put ins vs n (chM n d p q vs.length):=by
 have ad:=g.len aK;have z:=g.z ad;have bB:Ln (vs++[eK 1 n 0 0 0]) _ n:=il _ _ rfl rfl;unfold chM;by_cases c:p=-1
 ·rw[hD c];by_cases e:q=-1
  ·rw[hD e];exact put3 ((z.z ad).sel ((aK.app _).app _) (bB.app _) (il _ _ xac rfl)) rfl rfl
  rw[hC e];exact put2 (z.sel (aK.app _) bB ((ap.resolve_left e).app _)) rfl rfl
 have h:=aM.resolve_left c;rw[hC c];by_cases e:q=-1
 ·rw[hD e];exact put2 (z.sel (aK.app _) (h.app _) bB) rfl rfl
 rw[hC e];exact put1 (g.sel aK h (ap.resolve_left e)) rfl rfl
end
section
variable{ins:List Int}{vs:List Vl}{i:Nat}{v:Vl}
theorem KP(g:GVal ins vs){p q}(ar:Ln vs v.a v.len)(hb:Ln vs v.b v.len)(aM:p=-1\/Ln vs p v.len)(ap:q=-1\/Ln vs q v.len):xX ins vs v.len (yL v p q vs.length):=by
 have n:(4:Int)=2\/(4:Int)=3\/(4:Int)=4\/(4:Int)=5\/(4:Int)=7:=xab;unfold yL;by_cases c:p=-1
 ·rw[hD c];by_cases d:q=-1
  ·rw[hD d];exact Ep g
  rw[hC d];exact(put1 (g.two n ar (ap.resolve_left d)) rfl rfl).o
 have h:=aM.resolve_left c;rw[hC c];have aq:=g.two n h hb;by_cases d:q=-1
 ·rw[hD d];exact(put1 aq rfl rfl).o
 rw[hC d];have u:=ap.resolve_left d;have aN:=aq.two n (ar.app _) (u.app _);exact(put3 (aN.two (.inl rfl) ((il _ _ rfl rfl).app _) (il _ _ xac rfl)) rfl rfl).o
theorem bN.qcl(h:Zp:=by
 unfold yM;by_cases c:p=-1
 ·rw[hD c];by_cases d:q=-1
  ·rw[hD d];exact Ep g
  rw[hC d];have aq:=g.two n hi (ap.resolve_left d);have aN:=aq.two J (il _ _ rfl rfl) (hb.app _);exact(put3 (aN.one (.inl rfl) (il _ _ xac rfl)) rfl rfl).o
 have h:=aM.resolve_left c;rw[hC c];have aq:=g.two J h hb;by_cases d:q=-1
 ·rw[hD d];exact(put1 aq rfl rfl).o
 rw[hC d];have aN:=aq.two n (hi.app _) ((ap.resolve_left d).app _);have be:=aN.two (p:=(vs.length+1:Nat)) J (il _ _ xac rfl) ((hb.app _).app _);exact(QA (be.two bj (((il _ _ rfl rfl).app _).app _) (il _ _ xac rfl)) rfl rfl).o):Zp:=h
open bN in
theorem KQ(g:GVal ins vs){p q i}(hi:Ln vs i v.len)(hb:Ln vs v.b v.len)(aM:p=-1\/Ln vs p v.len)(ap:q=-1\/Ln vs q v.len):xX ins vs v.len (yM i v p q vs.length):=by
 exact qck
theorem Cx(hi:i<vs.length)(e:vs.getD i hF=v):Ln vs (i:Int) v.len:=⟨by omega,by omega,by grind⟩
theorem Oc(g:GVal ins vs)(hi:i<vs.length)(e:vs.getD i hF=v)(t:Nat->Int)(ht:∀q,q<cnt v.op->t q=-1\/Ln vs (t q) (jd vs (fld v q)))(ad:∀q,cnt v.op<=q->t q=-1):xX ins vs v.len (mvM (i:Int) v (t 0) (t 1) (t 2) vs.length):=by
 have ok:=g.1 i hi;have af:1<=v.len/\v.len<=1000:=by rw[<-e];exact fU ok
 have au:=Cx hi e;unfold mvM;by_cases c0:t 0=-1/\t 1=-1/\t 2=-1
 ·rw[hD c0];exact Ep g
 rw[hC c0]
 have key2:v.op=2\/v.op=3\/v.op=4\/v.op=5\/v.op=7->Ln vs _ _/\Ln vs _ _/\(t 0=-1\/Ln vs _ _)/\(t 1=-1\/Ln vs _ _):=λho=>by
  obtain⟨ah,ar,hb⟩:=Hp ok hi e ho
  have bG:=pM ok hi e (q:=0) xaa
  have f1:=pM ok hi e (q:=1) xaa
  have bn:=ht 0 xaa
  have aX:=ht 1 xaa
  rw[show fld v 0=v.a from rfl,ar]at bG bn
  rw[show fld v 1=v.b from rfl,hb]at f1 aX
  exact⟨bG,f1,bn,aX⟩
 have key1:cnt v.op=1->Ln _ _ (jd _ v.a):=λah=>by
  have aX:=ad 1 xaa
  have bb:=ad 2 xaa
  exact(ht 0 xaa).resolve_left (λc=>c0 ⟨c,aX,bb⟩)
 by_cases N:v.op=2
 ·grind[KN]
 rw[hC N];by_cases h3:v.op=3
 ·grind[KO]
 rw[hC h3];by_cases a6:v.op=4
 ·grind[KP]
 rw[hC a6];by_cases bF:v.op=5
 ·grind[KQ]
 rw[hC bF];by_cases aj:v.op=7
 ·rw[hD aj];obtain⟨bh,aL,aw,ak⟩:=key2 xaa;have aq:=g.two (.inr (.inl rfl)) bh aL;have h:=Hs aq (il _ _ rfl rfl) (aw.imp id (λh=>h.app _)) (ak.imp id (λh=>h.app _));grind[Put,Put.o]
 rw[hC aj];by_cases ax:v.op=8
 ·rw[hD ax];obtain⟨ah,ar,hb,G⟩:=Hq ok e ax;have bG:=pM ok hi e (q:=0) xaa;have aX:=ht 1 xaa;have bb:=ht 2 xaa;rw[show fld v 0=v.a from rfl,ar]at bG;rw[show fld v 1=v.b from rfl,hb]at aX;rw[show fld v 2=v.c from rfl,G]at bb;by_cases c:t 1=-1/\t 2=-1
  ·rw[hD c];exact Ep g
  rw[hC c];exact(Hs g bG aX bb).o
 rw[hC ax];by_cases I:v.op=13
 ·rw[hD I];obtain⟨ah,ar,G⟩:=xY ok e (.inr I);have k:=key1 ah;rw[ar]at k;exact(put1 (g.two (.inr (.inr (.inl rfl))) k au) rfl rfl).o
 rw[hC I];rcases Hr ok e with al|F
 ·grind[cnt]
 by_cases bp:v.op=6
 ·obtain⟨ah,ar,G⟩:=xY ok e (.inl bp);have k:=key1 ah;rw[ar]at k;rw[bp,G];exact(put1 (g.one (.inl rfl) k) rfl rfl).o
 by_cases aP:v.op=9
 ·obtain⟨ah,ar,G⟩:=PR ok e aP;have k:=key1 ah;rw[aP,G,ar];exact(put1 (g.p9 k) rfl rfl).o
 by_cases u:v.op=10
 ·obtain⟨ah,ar,G⟩:=M3 ok e u;have k:=key1 ah;rw[ar]at k;rw[u,G];exact(put1 (g.p10 af k) rfl rfl).o
 by_cases y:v.op=11
 ·obtain⟨ah,ar,G⟩:=M4 ok e y;have k:=key1 ah;rw[y,ar];exact(put1 (g.p11 k G) rfl rfl).o
 by_cases H:v.op=12
 ·obtain⟨ah,ar,G⟩:=M5 ok e H;have k:=key1 ah;rw[ar]at k;rw[H];exact(put1 (g.p12 af k G) rfl rfl).o
 grind[cnt]
theorem bO.qcl(h:Zp:=by
 have key2:v.op=2\/v.op=3\/v.op=4\/v.op=5\/v.op=7->Ln vs _ _/\Ln vs _ _/\jd _ (fld v k)=v.len/\k<2:=λho=>by
  obtain⟨ah,ar,B⟩:=Hp ok hi e ho
  have bG:=pM ok hi e (q:=0) xaa
  have f1:=pM ok hi e (q:=1) xaa
  rw[show fld v 0=v.a from rfl,ar]at bG
  rw[show fld v 1=v.b from rfl,B]at f1
  refine⟨bG,f1,?_,by omega⟩
  rcases (by omega:k=0\/k=1) with rfl|rfl
  ·exact ar
  ·exact B
 have key1:cnt v.op=1->fld v k=v.a:=λah=>by
  obtain rfl:k=0:=xaa
  rfl
 unfold nd;by_cases N:v.op=2
 ·grind[Ho]
 rw[hC N];by_cases h3:v.op=3
 ·rw[hD h3,(key2 xaa).2.2.1];by_cases c:k=0
  ·rw[hD c];exact Ho g aK
  rw[hC c];exact put1 (g.one (.inl rfl) aK) rfl rfl
 rw[hC h3];by_cases a6:v.op=4
 ·obtain⟨bh,aL,l,_⟩:=key2 xaa;rw[hD a6,l];by_cases c:k=0
  ·rw[hD c];exact put1 (g.two n aK aL) rfl rfl
  rw[hC c];exact put1 (g.two n aK bh) rfl rfl
 rw[hC a6];by_cases bF:v.op=5
 ·obtain⟨bh,aL,l,_⟩:=key2 xaa;rw[hD bF,l];by_cases c:k=0
  ·rw[hD c];exact put1 (g.two J aK aL) rfl rfl
  rw[hC c];have aq:=g.two n aK au;have aN:=aq.two J (il _ _ rfl rfl) (aL.app _);exact put3 (aN.one (.inl rfl) (il _ _ xac rfl)) rfl rfl
 rw[hC bF];by_cases bp:v.op=6
 ·obtain⟨ah,ar,_⟩:=xY ok e (.inl bp);rw[hD bp,key1 ah,ar];exact put1 (g.one (.inl rfl) aK) rfl rfl
 rw[hC bp];by_cases I:v.op=13
 ·obtain⟨ah,ar,_⟩:=xY ok e (.inr I);rw[hD I,key1 ah,ar];exact put1 (g.two n aK au) rfl rfl
 rw[hC I];by_cases ax:v.op=8
 ·obtain⟨ah,ar,Q,G⟩:=Hq ok e ax;have bG:=pM ok hi e (q:=0) xaa;rw[show fld v 0=v.a from rfl,ar]at bG;have bq:k≠0:=λc=>by subst c;simp[ph,ax]at hb
  have l:jd vs (fld v k)=v.len:=by
   rcases (by omega:k=1\/k=2) with rfl|rfl
   ·exact Q
   exact G
  rw[hD ax,l];have z:=g.z af;have bB:Ln (vs++[eK 1 v.len 0 0 0]) _ v.len:=il _ _ rfl rfl;by_cases c:k=1
  ·rw[hD c];exact put2 (z.sel (bG.app _) (aK.app _) bB) rfl rfl
  rw[hC c];exact put2 (z.sel (bG.app _) bB (aK.app _)) rfl rfl
 rw[hC ax];by_cases aj:v.op=7
 ·obtain⟨bh,aL,l,_⟩:=key2 xaa;rw[hD aj,l];have aq:=g.two bj bh aL;have bB:Ln (vs++[eK 3 v.len v.a v.b 0]) _ v.len:=il _ _ rfl rfl;have aN:=aq.z af;have b8:Ln ((vs++[eK 3 v.len v.a v.b 0])++[eK 1 v.len 0 0 0]) ((vs.length+1:Nat):Int) v.len:=il _ _ xac rfl;by_cases c:k=0
  ·rw[hD c];exact put3 (aN.sel (bB.app _) ((aK.app _).app _) b8) rfl rfl
  rw[hC c];exact put3 (aN.sel (bB.app _) b8 ((aK.app _).app _)) rfl rfl
 rw[hC aj];have m:cnt v.op=1->1<=jd vs _/\jd _ v.a<=1000:=λah=>g.len (pM ok hi e (q:=0) xaa);by_cases aP:v.op=9
 ·obtain⟨ah,ar,_⟩:=PR ok e aP;rw[hD aP,key1 ah];rw[ar]at aK;exact put1 (g.p10 (m ah) aK) rfl rfl
 rw[hC aP];by_cases u:v.op=10
 ·obtain⟨ah,ar,_⟩:=M3 ok e u;rw[hD u,key1 ah,ar];exact put1 (g.p9 aK) rfl rfl
 rw[hC u];by_cases y:v.op=11
 ·obtain⟨ah,ar,G⟩:=M4 ok e y;rw[hD y,key1 ah];rw[ar]at aK;exact put1 (g.p12 (m ah) aK G) rfl rfl
 rw[hC y];rcases Hr ok e with al|F
 ·grind[cnt]
 by_cases H:v.op=12
 ·obtain⟨ah,ar,G⟩:=M5 ok e H;rw[key1 ah,ar];exact put1 (g.p11 aK G) rfl rfl
 grind[cnt]):Zp:=h
open bO in
theorem KR(g:GVal ins vs)(hi:i<vs.length)(e:vs.getD i hF=v){k}(O:k<cnt v.op)(hb:ph v k=true){d}(aK:Ln vs d v.len):Put ins vs (jd vs (fld v k)) (nd (i:Int) v (jd vs v.a) k d vs.length):=by
 have ok:=g.1 i hi;have af:1<=v.len/\v.len<=1000:=by rw[<-e];exact fU ok
 have au:=Cx hi e;exact qck
end
structure GIv(ins:List Int)(vs0:List Vl)(st:List Vl×List Int):Prop where
 g:GVal ins st.1
 p:Pre vs0 st.1
 l:st.2.length=vs0.length
 m:∀q,q<vs0.length->st.2.getD q 0=-1\/Ln st.1 (st.2.getD q 0) (jd vs0 (q:Int))
theorem jb(vs)(q:Nat):jd vs (q:Int)=(vs.getD q hF).len:=by unfold jd;grind
theorem uq(p:Pre vs0 us)(al:0<=j)(F:j<(vs0.length:Int)):jd us j=jd vs0 j:=by
 unfold jd;rw[(p.at_ (j:=j.toNat) xaa).1]
theorem Er(l:List Int)(i x)(h:i<l.length):(l.set i x).getD i 0=x:=by
 simp_all
theorem Es(l:List Int)(i q x)(h:i≠q):(l.set i x).getD q 0=l.getD q 0:=by
 simp_all
theorem GIv.put{st}(h:GIv ins vs0 st){i}(hi:i<vs0.length){M}(bx:xX ins st.1 (jd vs0 (i:Int)) M):GIv ins vs0 (st.1++M.1,st.2.set i M.2):=by
 refine⟨bx.1,h.p.app,by rw[List.length_set];exact h.l,λq ap=>?_⟩;by_cases c:i=q
 ·subst c;simp only;rw[Er _ _ _ (hL h.l hi)];exact bx.2
 simp only;rw[Es _ _ _ _ c];exact(h.m q ap).imp id (λx=>x.app _)
theorem vK(g:GVal ins (vs0++us))(an:x<vs0.length){t}(ht:Ln (vs0++us) t (jd vs0 (x:Int))):GIv ins vs0 (vs0++us,(List.replicate vs0.length (-1)).set x t):=by
 refine⟨g,⟨_,rfl⟩,by grind,λq ap=>?_⟩;grind
theorem zV{ins vs0}(g:GVal ins vs0){x t:Nat}(ht:Ln vs0 (t:Int) (jd vs0 (x:Int))):∀k,x+k<vs0.length->GIv ins vs0 (jst vs0 x t k)
 |0,O=>by
  have h:=vK (us:=[]) (ins:=ins) (vs0:=vs0) (x:=x) (t:=(t:Int)) (by simpa using g) xaa (by simpa using ht)
  rw[List.append_nil]at h
  exact h
 |k+1,O=>by
  have G:=zV g ht k xaa
  have hi:x+1+k<vs0.length:=xaa
  have e:=(G.p.at_ hi).1
  have bx:=Oc G.g (G.p.at_ hi).2 e (ovs (vs0.getD (x+1+k) hF) (jst vs0 x t k).2 (cnt (vs0.getD (x+1+k) hF).op)) (λq ap=>?_) (λq ap=>by unfold ovs;omega)
  ·rw[<-jb]at bx
   exact G.put hi bx
  ·have ho:=mn (g.1 _ hi) q ap
   unfold ovs
   rw[hD ap,uq G.p ho.1 xaa]
   have am:=G.m (fld (vs0.getD (x+1+k) hF) q).toNat xaa
   grind
theorem mQ(g:GVal ins vs){t:Nat}(au:s<vs.length)(an:x<vs.length)(ht:Ln vs (t:Int) (jd vs (x:Int))):GVal ins (jH vs s x t).1/\Ln (jH vs s x t).1 (jH vs s x t).2 (jd vs (s:Int))/\Pre vs (jH vs s x t).1:=by
 have h:=zV g ht (s-x) xaa;have af:=fU (g.1 s au);unfold jH;by_cases c:(jst vs x t (s-x)).2.getD s 0=-1
 ·rw[hD c];exact⟨h.g.z af,il _ _ rfl (jb _ _).symm,h.p.app⟩
 rw[hC c];exact⟨h.g,(h.m s au).resolve_left c,h.p⟩
theorem KT(g:GVal ins vs0){act i}(hi:i<vs0.length)(O:k<cnt (vs0.getD i hF).op){st}(h:GIv ins vs0 st)(aK:st.2.getD i 0≠-1):GIv ins vs0 (gkM vs0 act i k st)/\(gkM vs0 act i k st).2.getD i 0=st.2.getD i 0:=by
 unfold gkM;by_cases c:act.getD (fld (vs0.getD i hF) k).toNat false=true/\ph (vs0.getD i hF) k=true
 ·rw[hD c];have ho:=mn (g.1 i hi) k O;have al:=mn (g.1 i hi) 0 xaa;have e:=(h.p.at_ hi).1;have l:=(h.m i hi).resolve_left aK;rw[jb]at l;have hP:=KR h.g (h.p.at_ hi).2 e O c.2 l;rw[uq h.p ho.1 xaa,show jd st.1 _=laM _ i from uq h.p al.1 (by have:(vs0.getD i _).a<i:=al.2;omega)]at hP;generalize nd _ _ _ k _ _=M at hP;generalize eT:fld _ k=aq at ho hP;obtain⟨o,rfl⟩:=Int.eq_ofNat_of_zero_le ho.1;have gv:o<i:=xaa;rw[Int.toNat_natCast];unfold ms;simp only;by_cases d:st.2.getD o 0=-1
  ·rw[hD d];refine⟨h.put xaa hP.o,?_⟩;grind
  rw[hC d];have bn:=((h.m o xaa).resolve_left d).app M.1;have aN:=hP.1.two (.inl rfl) bn hP.2
  have N:xX ins st.1 (jd vs0 o) (M.1++[eK 2 (jd vs0 o) (st.2.getD o 0) M.2 0],((st.1++M.1).length:Int)):=by
   refine⟨by grind,.inr ?_⟩;simp only;rw[<-List.append_assoc];exact il _ _ rfl rfl
  have h3:=h.put xaa N;grind[jb]
 grind
theorem vL{ins vs0}(g:GVal ins vs0){act i}(hi:i<vs0.length){st}(h:GIv ins vs0 st)(aK:st.2.getD i 0≠-1):∀k,k<=cnt (vs0.getD i hF).op->GIv ins vs0 (jI vs0 act i st k)/\(jI vs0 act i st k).2.getD i 0=st.2.getD i 0
 |0,_=>⟨h,rfl⟩
 |k+1,O=>by
  obtain⟨F,N⟩:=vL g hi h aK k xaa
  obtain⟨h3,a6⟩:=KT g (act:=act) hi O F (hL N aK)
  exact⟨h3,a6.trans N⟩
theorem zW{ins vs0}(g:GVal ins vs0){act s}(au:s<vs0.length)(F:(vs0.getD s hF).len=1):∀j,GIv ins vs0 (gdn vs0 act s j)
 |0=>vK (g.p1 ⟨by decide,by decide⟩ xab) au (il _ _ rfl (by rw[jb,F]))
 |j+1=>by
  have G:=zW (act:=act) g au F j
  grind[giM,gdn,vL]
theorem zX(g:GVal ins vs)(au:s<vs.length)(an:x<vs.length)(F:(vs.getD s hF).len=1):GVal ins (grM vs s x).1/\Ln (grM vs s x).1 (grM vs s x).2 (jd vs (x:Int))/\Pre vs (grM vs s x).1:=by
 have af:=fU (g.1 x an);unfold grM;by_cases c:(jg vs x (s-x)).getD s false=true
 ·rw[hD c];unfold G3;rw[tZ _ _ _ _ _ yad];have h:=zW (act:=jg vs x (s-x)) g au F (s-x);unfold N2;by_cases d:(gdn vs (jg vs x (s-x)) s (s-x)).2.getD x 0=-1
  ·rw[hD d];exact⟨h.g.z af,il _ _ rfl (jb _ _).symm,h.p.app⟩
  rw[hC d];exact⟨h.g,(h.m x an).resolve_left d,h.p⟩
 rw[hC c];exact⟨g.z af,il _ _ rfl (jb _ _).symm,⟨_,rfl⟩⟩
theorem Gd.v(g:Gd st):GVal st.ins st.vs:=⟨λi hi=>List.all_eq_true.1 g.ok i (List.mem_range.2 hi),g.k⟩
theorem Gd.with(g:Gd st)(h:GVal st.ins vs)(af:jY vs=false):Gd {st with vs:=vs}:=by
 obtain⟨F,N⟩:=Hj af;exact⟨F,N,List.all_eq_true.2 (λi hi=>h.1 i (List.mem_range.1 hi)),h.2,g.i,g.o,g.m⟩
structure Gw(st st':LSt):Prop where
 g:Gd st'
 n:st.vs.length<=st'.vs.length
 l:∀i,i<st.vs.length->eX st' i=eX st i
 i:st'.ins=st.ins
 o:st'.outs=st.outs
 m:st'.names=st.names
theorem Gw.refl(g:Gd st):Gw st st:=⟨g,yad,λ_ _=>rfl,rfl,rfl,rfl⟩
theorem Gw.trans{a c}(h:Gw a b)(k:Gw b c):Gw a c:=
 ⟨k.g,yao h.n k.n,λi hi=>(k.l i (yak hi h.n)).trans (h.l i hi),k.i.trans h.i,k.o.trans h.o,k.m.trans h.m⟩
def RsG(st:LSt)(r:Rs (LSt×Nat)):Prop:=∀st' v,r=.ok (st',v)->Gw st st'/\v<st'.vs.length
theorem gS{f}:RsG st (.error f):=λ_ _ h=>by cases h
theorem Ht{v}(h:Gw st R)(aO:v<R.vs.length):RsG st (.ok (R,v)):=λ_ _ e=>by grind
theorem RsG.back{a}(h:Gw a b)(k:RsG b r):RsG a r:=λs v e=>⟨h.trans (k s v e).1,(k s v e).2⟩
theorem Hu(p:Pre st.vs vs){i}(hi:i<st.vs.length):eX {st with vs:=vs} i=eX st i:=by
 unfold eX;simp only;rw[(p.at_ hi).1]
theorem Hv(g:Gd st)(h:GVal st.ins vs)(af:jY vs=false)(p:Pre st.vs vs):Gw st {st with vs:=vs}:=
 ⟨g.with h af,by obtain⟨r,rfl⟩:=p;simp,λi hi=>Hu p hi,rfl,rfl,rfl⟩
theorem oF(g:Gd st){v}(h:GVal st.ins (st.vs++[v])){p j}(e:fN st v p=.ok (R,j)):Gw st R/\j<R.vs.length/\eX R j=v.len:=by
 unfold fN at e;cases af:jY (st.vs++[v]) with
 |true=>grind
 |false=>
  rw[af,hC xac]at e;cases e;have ad:=il st.vs v rfl rfl;exact⟨Hv g h af ⟨_,rfl⟩,by simp,by have:=ad.2.2;rw[Int.toNat_natCast]at this;exact this⟩
theorem jM(g:Gd st){v}(h:GVal st.ins (st.vs++[v]))(p):RsG st (fN st v p):=λ_ _ e=>⟨(oF g h e).1,(oF g h e).2.1⟩
theorem pN(g:Gd st){m n}(h:GVal st.ins m.1/\Ln m.1 m.2 n/\Pre st.vs m.1)(p):RsG st (iJ st m p):=by
 unfold iJ;cases af:jY m.1 with
 |true=>rw[hD rfl];exact gS
 |false=>
  rw[hC xac];refine Ht (Hv g h.1 af h.2.2) ?_;have:=h.2.1.1;have:=h.2.1.2.1;grind
theorem jB{i}(h:i<st.vs.length):Ln st.vs (i:Int) (eX st i):=⟨by omega,by omega,hO Int.toNat_natCast⟩
theorem rz(n p)(ad:1<=n/\n<=1000):∀(xs:List Nat) (st:LSt),Gd st->(∀i∈xs,i<st.vs.length/\(eX st i=n\/eX st i=1))->∀R aY,iC n p st xs=.ok (R,aY)->Gw st R/\aY.length=xs.length/\∀j∈aY,j<R.vs.length/\eX R j=n
 |[],st,g,_,R,aY,e=>by
  cases e<;>grind[Gw.refl]
 |i::r,st,g,an,R,aY,e=>by
  have hi:=an i (List.mem_cons_self ..)
  by_cases c:eX st i<n
  ·have F:eX st i=1:=xaa
   cases aM:fN st (eK 10 n (i:Int) 0 0) p with
   |error f=>rw[pA c aM]at e;cases e
   |ok x=>
    obtain⟨ax,j⟩:=x
    obtain⟨aA,ag,aF⟩:=oF g (g.v.p10 ad (by rw[<-F];exact jB hi.1)) aM
    rw[pz c aM]at e
    cases a5:iC n p ax r with
    |error f=>rw[a5]at e;cases e
    |ok y=>
     obtain⟨aU,aa⟩:=y
     rw[a5]at e
     cases e
     obtain⟨aw,ak,aR⟩:=rz n p ad r _ aA.g (λq ap=>by
      have h:=an q (List.mem_cons_of_mem _ ap)
      rw[aA.l q h.1]
      exact⟨yak h.1 aA.n,h.2⟩) _ _ a5
     refine⟨aA.trans aw,by simp[ak],λq ap=>?_⟩
     rcases List.mem_cons.1 ap with rfl|ap
     ·exact⟨yak ag aw.n,(aw.l q ag).trans aF⟩
     ·exact aR q ap
  ·have F:eX st i=n:=xaa
   rw[oC c]at e
   cases a5:iC n p st r with
   |error f=>rw[a5]at e;cases e
   |ok y=>
    obtain⟨aU,aa⟩:=y
    rw[a5]at e
    cases e
    obtain⟨aw,ak,aR⟩:=rz n p ad r _ g (λq ap=>an q (List.mem_cons_of_mem _ ap)) _ _ a5
    refine⟨aw,by simp[ak],λq ap=>?_⟩
    rcases List.mem_cons.1 ap with rfl|ap
    ·exact⟨yak hi.1 aw.n,(aw.l q hi.1).trans F⟩
    ·exact aR q ap
theorem lj(g:Gd st)(xs p)(an:∀i∈xs,i<st.vs.length)(e:jJ st xs p=.ok (R,aY)):Gw st R/\aY.length=xs.length/\∃n,∀j∈aY,j<R.vs.length/\eX R j=n:=by
 unfold jJ at e;by_cases c:xs.all (λi=>eX st i==pI st xs||eX st i==1)=true
 ·rw[hD c]at e;have hb:=xU g _ an _ yad;rw[List.take_length]at hb;obtain⟨F,N,h3⟩:=rz _ p hb _ _ g (λi hi=>⟨an i hi,by simp_all⟩) _ _ e;exact⟨F,N,_,h3⟩
 grind
theorem lZ(h:k<aY.length):aY.getD k 0∈aY:=by
 simp_all
theorem Hw(s):qC s=2\/qC s=3\/qC s=4\/qC s=5\/qC s=7:=by
 grind[qC]
theorem aW.qbx(h:Zp:=by
 have bB:=jB bG.1;have b8:=jB f1.1;rw[f1.2,<-bG.2]at b8;exact RsG.back F (jM F.g (F.g.v.two (Hw _) bB b8) _)):Zp:=h
open aW in
theorem KU(g:Gd st)(o){b}(ar:a<st.vs.length)(hb:b<st.vs.length):RsG st (qD st o a b):=by
 unfold qD;cases a5:jJ st [a,b] o.pos with
 |error f=>exact gS
 |ok x=>
  exact qbw
theorem aX.qbx(h:Zp:=by
 have bB:=jB bG.1;have b8:=jB f1.1;rw[f1.2,<-bG.2]at b8;simp only;by_cases c:k.sym=AY
 ·rw[hD c];exact RsG.back F (jM F.g (F.g.v.two (.inr (.inr (.inr (.inr rfl)))) bB b8) _)
 rw[hC c];cases aM:fN aU (eK 4 (eX aU (f.getD 0 0)) (f.getD 0 0:Nat) (f.getD 1 0:Nat) 0) k.pos with
 |error f=>exact gS
 |ok x=>
  obtain⟨bx,j⟩:=x;obtain⟨aA,ag,aF⟩:=oF F.g (F.g.v.two (.inr (.inr (.inl rfl))) bB b8) aM;exact RsG.back (F.trans aA) (jM aA.g (aA.g.v.p9 (jB ag)) _)):Zp:=h
open aX in
theorem Hx(g:Gd st)(k){b}(ar:a<st.vs.length)(hb:b<st.vs.length):RsG st (qE st k a b):=by
 unfold qE;cases a5:jJ st [a,b] k.pos with
 |error f=>exact gS
 |ok x=>
  exact qbw
theorem aY.qbx(h:Zp:=by
 have f2:=h3 _ (lZ (k:=2) (by rw[N];simp));have bB:=jB bG.1;have b8:=jB f1.1;have cg:=jB f2.1;rw[f1.2,<-bG.2]at b8;rw[f2.2,<-bG.2]at cg;exact RsG.back F (jM F.g (F.g.v.sel bB b8 cg) _)):Zp:=h
open aY in
theorem KV(g:Gd st)(k){b c}(ar:a<st.vs.length)(hb:b<st.vs.length)(ah:c<st.vs.length):RsG st (xQ st k a b c):=by
 unfold xQ;cases a5:jJ st [a,b,c] k.pos with
 |error f=>exact gS
 |ok x=>
  exact qbw
theorem Cy{l}(h:Dgs l):0<=ik l:=by
 have:=pK h yad;grind
theorem Bt(g:Gd st)(k)(ar:a<st.vs.length)(n)(bl:Dgs n.text):RsG st (lV st k a n):=by
 have al:=Cy bl;have l:=jB ar;unfold lV;by_cases c:k.sym=ql
 ·rw[hD c];by_cases d:eX st a<=ik n.text
  ·rw[hD d];exact gS
  rw[hC d];exact jM g (g.v.p11 l ⟨al,by omega⟩) _
 rw[hC c];by_cases d:eX st a≠1
 ·rw[hD d];exact gS
 rw[hC d];by_cases e:ik n.text<1\/1000<ik n.text
 ·rw[hD e];exact gS
 rw[hC e];rw[Decidable.not_not.1 d]at l;exact jM g (g.v.p10 ⟨by omega,by omega⟩ l) _
theorem Bu(g:Gd st)(k)(ar:a<st.vs.length)(i n)(bl:Dgs i.text):RsG st (lW st k a i n):=by
 have al:=Cy bl;have l:=jB ar;unfold lW;by_cases d:eX st a≠1
 ·rw[hD d];exact gS
 rw[hC d];by_cases e:ik n.text<1\/1000<ik n.text
 ·rw[hD e];exact gS
 rw[hC e];by_cases q:ik n.text<=ik i.text
 ·rw[hD q];exact gS
 rw[hC q];rw[Decidable.not_not.1 d]at l;exact jM g (g.v.p12 ⟨by omega,by omega⟩ l ⟨al,by omega⟩) _
theorem Hy(g:Gd st)(k)(ar:a<st.vs.length)(an:x<st.vs.length):RsG st (py st k a x):=by
 unfold py;by_cases d:eX st a≠1
 ·rw[hD d];exact gS
 rw[hC d];exact pN g (zX g.v ar an (Decidable.not_not.1 d)) _
theorem KY(g:Gd st)(k){d}(ar:a<st.vs.length)(an:x<st.vs.length)(aK:d<st.vs.length):RsG st (pJ st k a x d):=by
 have co:=g.lenB an;have cV:=jB aK;unfold pJ;by_cases c:eX st d=1/\1<eX st x
 ·rw[hD c];rw[c.1]at cV;cases aM:fN st (eK 10 (eX st x) (d:Int) 0 0) k.pos with
  |error f=>exact gS
  |ok y=>
   obtain⟨aU,bf⟩:=y;obtain⟨aA,ag,aF⟩:=oF g (g.v.p10 co cV) aM;refine RsG.back aA (pN aA.g (mQ aA.g.v (yak ar aA.n) (yak an aA.n) ?_) _);have cg:=jB ag;rw[aF]at cg;rw[jb];have:=aA.l x an;rw[show(aU.vs.getD x _).len=eX _ x from rfl,this];exact cg
 rw[hC c];by_cases e:eX st d≠eX st x
 ·rw[hD e];exact gS
 rw[hC e];refine pN g (mQ g.v ar an ?_) _;grind[jb,eX]
inductive EOK:Ex->Prop
 |num (t:Tok):EOK (.num t)
 |name (t:Tok):EOK (.name t)
 |neg (o:Tok) {e:Ex}:EOK e->EOK (.neg o e)
 |bin (o:Tok) {a b:Ex}:EOK a->EOK b->EOK (.bin o a b)
 |call (t:Tok) {es:List Ex}:(∀e∈es,EOK e)->EOK (.call t es)
 |key1 (k:Tok) {e:Ex}:EOK e->EOK (.key1 k e)
 |key2 (k:Tok) {a b:Ex}:EOK a->EOK b->EOK (.key2 k a b)
 |key3 (k:Tok) {a b c:Ex}:EOK a->EOK b->EOK c->EOK (.key3 k a b c)
 |keyN (k:Tok) {e:Ex}{n:Tok}:EOK e->Dgs n.text->EOK (.keyN k e n)
 |put (k:Tok) {e:Ex}{i n:Tok}:EOK e->Dgs i.text->Dgs n.text->EOK (.put k e i n)
 |grad (k:Tok) {e:Ex} (x:Tok):EOK e->EOK (.grad k e x)
 |jvp (k:Tok) {e d:Ex} (x:Tok):EOK e->EOK d->EOK (.jvp k e x d)
theorem je{n es ts}(h:Pr n es ts):(∀t∈ts,t.sym=iK->Dgs t.text)->∀e∈es,EOK e:=by
 have one:∀{P:Ex->Prop}{x:Ex},P x->∀e∈[x],P e:=λh e aZ=>by grind
 have l:∀{P:Ex->Prop}{x:Ex},(∀e∈[x],P e)->P x:=λh=>h _ (List.mem_singleton.2 rfl);induction h with
 |up01 _ G=>exact G
 |up12 _ G=>exact G
 |add _ _ _ m g=>exact λY=>one (.bin _ (l (m λt ht=>Y t (by simp[ht]))) (l (g λt ht=>Y t (by simp[ht]))))
 |mul _ _ _ m g=>exact λY=>one (.bin _ (l (m λt ht=>Y t (by simp[ht]))) (l (g λt ht=>Y t (by simp[ht]))))
 |neg _ _ G=>exact λY=>one (.neg _ (l (G λt ht=>Y t (by simp[ht]))))
 |num _=>exact λ_=>one (.num _)
 |name _=>exact λ_=>one (.name _)
 |par _ _ _ G=>simp_all
 |call0 _ _ _=>exact λ_=>one (.call _ (λe aZ=>by cases aZ))
 |call _ _ _ _ G=>exact λY=>one (.call _ (G λt ht=>Y t (by simp[ht])))
 |arg1 _ G=>exact G
 |argM _ _ _ m g=>grind
 |key1 _ _ _ _ G=>exact λY=>one (.key1 _ (l (G λt ht=>Y t (by simp[ht]))))
 |key2 _ _ _ _ _ _ m g=>exact λY=>one (.key2 _ (l (m λt ht=>Y t (by simp[ht]))) (l (g λt ht=>Y t (by simp[ht]))))
 |key3 _ _ _ _ _ _ _ _ m g i=>exact λY=>one (.key3 _ (l (m λt ht=>Y t (by simp[ht]))) (l (g λt ht=>Y t (by simp[ht]))) (l (i λt ht=>Y t (by simp[ht]))))
 |keyN _ _ _ _ ad _ G=>exact λY=>one (.keyN _ (l (G λt ht=>Y t (by simp[ht]))) (Y _ xac ad))
 |put _ _ _ _ hi _ ad _ G=>exact λY=>one (.put _ (l (G λt ht=>Y t (by simp[ht]))) (Y _ xac hi) (Y _ xac ad))
 |grad _ _ _ _ _ _ G=>exact λY=>one (.grad _ _ (l (G λt ht=>Y t (by simp[ht]))))
 |jvp _ _ _ _ _ _ _ _ m g=>exact λY=>one (.jvp _ _ (l (m λt ht=>Y t (by simp[ht]))) (l (g λt ht=>Y t (by simp[ht]))))
def BOK(n:Nat):Bdg->Prop
 |.val _ v=>v<n
 |.fn _ _ e=>EOK e
def NmOK(st:LSt):Prop:=∀b∈st.names,BOK st.vs.length b
theorem BOK.le{n m}(h:n<=m){b}(k:BOK n b):BOK m b:=by
 cases b with
 |val _ v=>exact yak k h
 |fn _ _ _=>exact k
theorem NmOK.gw{a}(h:NmOK a)(w:Gw a b):NmOK b:=λx an=>(h x (hM w.m an)).le w.n
def LcOK(loc:Loc)(n:Nat):Prop:=∀b∈loc,b.2<n
theorem LcOK.le{u n m}(k:LcOK u n)(h:n<=m):LcOK u m:=λb hb=>yak (k b hb) h
theorem oG(am:NmOK st){u}(af:LcOK u st.vs.length){t v}(e:fx st u t=.ok v):v<st.vs.length:=by
 unfold fx Bs at e;cases a5:u.find? (λb=>b.1==t.text) with
 |some b=>
  rw[a5]at e;simp only[Option.map_some]at e;cases e;exact af b (List.mem_of_find?_eq_some a5)
 |none=>
  rw[a5]at e;simp only[Option.map_none]at e;unfold iQ at e;cases hb:st.names.find? (λb=>b.nm==t.text) with
  |none=>grind
  |some b=>
   rw[hb]at e;have:=am b (List.mem_of_find?_eq_some hb);cases b with
   |val _ v=>cases e;exact this
   |fn _ _ _=>cases e
theorem ii{r f}(F:∀q,r=some q->RsG st q)(N:∀s a,Gw st s->a<s.vs.length->∀q,f s a=some q->RsG s q):∀q,jp r f=some q->RsG st q:=λq e=>by
 unfold jp at e
 cases r with
 |none=>cases e
 |some x=>
  cases x with
  |error x=>grind
  |ok x=>
   obtain⟨s,a⟩:=x
   obtain⟨w,ar⟩:=F _ rfl s a rfl
   exact RsG.back w (N s a w ar q e)
theorem vM{ao g}:∀(es:List Ex) (st:LSt),Gw g st->(∀e∈es,∀s,Gw g s->∀q,ao s e=some q->RsG s q)->∀aU xs,fY ao st es=some (.ok (aU,xs))->Gw st aU/\xs.length=es.length/\∀x∈xs,x<aU.vs.length
 |[],st,C,_,aU,xs,e=>by
  cases e
  exact⟨Gw.refl C.g,rfl,λx an=>by cases an⟩
 |ae::r,st,C,h,aU,xs,e=>by
  unfold fY at e
  cases F:ao st ae with
  |none=>grind
  |some q=>
   rw[F]at e
   cases q with
   |error f=>cases e
   |ok x=>
    obtain⟨ax,a⟩:=x
    obtain⟨w,ar⟩:=h _ (List.mem_cons_self ..) _ C _ F _ a rfl
    simp only at e
    cases N:fY ao ax r with
    |none=>grind
    |some q=>
     rw[N]at e
     cases q with
     |error f=>cases e
     |ok x=>
      obtain⟨bx,bJ⟩:=x
      simp only at e
      cases e
      obtain⟨aw,ak,aR⟩:=vM r _ (C.trans w) (λe aZ=>h e (List.mem_cons_of_mem _ aZ)) _ _ N
      refine⟨w.trans aw,by simp[ak],λx an=>?_⟩
      rcases List.mem_cons.1 an with rfl|an
      ·exact yak ar aw.n
      grind
theorem ig{q}(h:RsG st r)(e:some r=some q):RsG st q:=by grind
theorem gn:∀(f:Nat) (st:LSt) (u:Loc) (e:Ex),Gd st->NmOK st->LcOK u st.vs.length->EOK e->∀r,eM f st u e=some r->RsG st r
 |0,_,_,_,_,_,_,_,r,h=>by cases h
 |f+1,st,u,e,g,am,af,aZ,r,h=>by
  have G:∀{e:Ex},EOK e->∀{s:LSt},Gw _ s->∀q,eM f s _ e=some q->_:=λaZ s w q ap=>gn f s _ _ w.g (am.gw w) (af.le w.n) aZ q ap
  cases aZ with
  |num t=>
   rw[eM]at h
   exact ig (jM g (g.v.p1 ⟨by decide,by decide⟩ (kM _ _ _)) _) h
  |name t=>
   grind[eM,gS,Ht,Gw.refl,oG]
  |neg o aZ=>
   rw[eM]at h
   exact ii (G aZ (Gw.refl g)) (λs a w ar q ap=>ig (jM w.g (w.g.v.one (.inl rfl) (jB ar)) _) ap) r h
  |bin o ar hb=>
   rw[eM]at h
   exact ii (G ar (Gw.refl g)) (λs a w ar=>ii (G hb w) (λaU b ag hb q ap=>ig (KU ag.g _ (yak ar ag.n) hb) ap)) r h
  |call t cx=>
   rename_i es
   rw[eM]at h
   cases a5:iQ st.names t.text with
   |none=>rw[a5]at h;exact ig gS h
   |some b=>
    rw[a5]at h
    cases b with
    |val _ _=>exact ig gS h
    |fn bb ps C=>
     simp only at h
     by_cases c:ps.length=es.length
     ·rw[hD c]at h
      cases ar:fY (λs e=>eM f s u e) st es with
      |none=>grind
      |some q=>
       rw[ar]at h
       cases q with
       |error q=>exact ig gS h
       |ok x=>
        obtain⟨ax,xs⟩:=x
        obtain⟨w,ag,aF⟩:=vM _ _ (Gw.refl g) (λe aZ s w q ap=>G (cx e aZ) w q ap) _ _ ar
        simp only at h
        by_cases d:500<=ax.calls
        ·rw[hD d]at h;exact ig gS h
        ·rw[hC d]at h
         have bc:Gw _ {ax with calls:=ax.calls+1}:=⟨⟨w.g.n,w.g.c,w.g.ok,w.g.k,w.g.i,w.g.o,w.g.m⟩,w.n,w.l,w.i,w.o,w.m⟩
         have hb:EOK _:=am _ (List.mem_of_find?_eq_some a5)
         exact RsG.back bc (gn f _ _ _ bc.g (am.gw bc) (λb hb=>aF _ (List.of_mem_zip (show(b.1,b.2)∈_ from hb)).2) hb r h)
     ·rw[hC c]at h;exact ig gS h
  |key1 k aZ=>
   rw[eM]at h
   refine ii (G aZ (Gw.refl g)) (λs a w ar q ap=>ig ?_ ap) r h
   by_cases c:k.sym=yX
   ·rw[hD c];exact jM w.g (w.g.v.one (.inr rfl) (jB ar)) _
   ·rw[hC c];exact jM w.g (w.g.v.p9 (jB ar)) _
  |key2 k ar hb=>
   rw[eM]at h
   exact ii (G ar (Gw.refl g)) (λs a w ar=>ii (G hb w) (λaU b ag hb q ap=>ig (Hx ag.g _ (yak ar ag.n) hb) ap)) r h
  |key3 k ar hb ah=>
   rw[eM]at h
   exact ii (G ar (Gw.refl g)) (λs a w ar=>ii (G hb w) (λaU b ag hb=>ii (G ah (w.trans ag)) (λbx c aF ah q ap=>ig (KV aF.g _ (yak ar (yao ag.n aF.n)) (yak hb aF.n) ah) ap))) r h
  |keyN k aZ bl=>
   rw[eM]at h
   exact ii (G aZ (Gw.refl g)) (λs a w ar q ap=>ig (Bt w.g _ ar _ bl) ap) r h
  |put k aZ bl bA=>
   rw[eM]at h
   exact ii (G aZ (Gw.refl g)) (λs a w ar q ap=>ig (Bu w.g _ ar _ _ bl) ap) r h
  |grad k x aZ=>
   rw[eM]at h
   cases aO:fx st u x with
   |error q=>rw[aO]at h;exact ig gS h
   |ok v=>
    rw[aO]at h
    have an:=oG am af aO
    exact ii (G aZ (Gw.refl g)) (λs a w ar q ap=>ig (Hy w.g _ ar (yak an w.n)) ap) r h
  |jvp k x aZ aK=>
   rw[eM]at h
   cases aO:fx st u x with
   |error q=>rw[aO]at h;exact ig gS h
   |ok v=>
    rw[aO]at h
    have an:=oG am af aO
    exact ii (G aZ (Gw.refl g)) (λs a w ar=>ii (G aK w) (λaU b ag hb q ap=>ig (KY ag.g _ (yak ar ag.n) (yak an (yao w.n ag.n)) hb) ap)) r h
def Hz:List Tok->List Tok->Option Nat
 |_,[]=>none
 |seen,p::r=>if seen.any (λq=>q.text==p.text)=true then some p.pos else Hz (seen++[p]) r
def KZ(ns:List Bdg)(s:List UInt8):Nat:=ns.findIdx λb=>b.nm==s
def LSt.setV(st:LSt)(i:Nat)(s:List UInt8)(v:Nat):LSt:={st with names:=st.names.set i (.val s v)}
def nH(f:Nat)(e:Ex)(i:Nat)(s:List UInt8):Nat->LSt->Option (Rs LSt)
 |0,st=>some (.ok st)
 |k+1,st=>match eM f st [] e with
  |none=>none
  |some (.error q)=>some (.error q)
  |some (.ok (st1,v))=>nH f e i s k (st1.setV i s v)
def qH(s:List UInt8)(r:Rs (LSt×Nat)):Rs LSt:=match r with
 |.error q=>.error q
 |.ok (st,v)=>.ok {st with names:=st.names++[.val s v]}
def Od(r:Rs (LSt×Nat)):Rs LSt:=match r with
 |.error q=>.error q
 |.ok (st,v)=>.ok {st with outs:=st.outs++[(v:Int)]}
def inR(st:LSt)(n l:Tok):Rs LSt:=
 if ik l.text<1\/1000<ik l.text then .error (4,l.pos)
 else if 20<=st.ins.length then .error (5,n.pos)
 else qH n.text (fN {st with ins:=st.ins++[ik l.text]} (eK 0 (ik l.text) (st.ins.length:Int) 0 0) n.pos)
def H4(st:LSt)(n:Tok)(ps:List Tok)(e:Ex):Rs LSt:=match Hz [] ps with
 |some p=>.error (3,p)
 |none=>.ok {st with names:=st.names++[.fn n.text ps e]}
def pi(st:LSt)(n:Tok)(r:Option (Rs LSt)):Option (Rs LSt):=match iQ st.names n.text with
 |some _=>some (.error (3,n.pos))
 |none=>r
def iI(f:Nat)(st:LSt):Sm->Option (Rs LSt)
 |.outS k e=>if 50<=st.outs.length then some (.error (5,k.pos))else (eM f st [] e).map Od
 |.rep i n e=>match iQ st.names n.text with
  |some (.val _ _)=>if 100<ik i.text then some (.error (5,i.pos))else nH f e (KZ st.names n.text) n.text (ik i.text).toNat st
  |_=>some (.error (3,n.pos))
 |.defS n ps e=>pi st n (some (H4 st n ps e))
 |.letS n e=>pi st n ((eM f st [] e).map (qH n.text))
 |.inS n l=>pi st n (some (inR st n l))
def oH(f:Nat):LSt->List Sm->Option (Rs LSt)
 |st,[]=>some (.ok st)
 |st,s::ss=>match iI f st s with
  |none=>none
  |some (.error q)=>some (.error q)
  |some (.ok st1)=>oH f st1 ss
theorem zY(s):mh s≠iK/\mh s≠lk:=by
 unfold mh;split
 ·rename_i h;constructor
  ·rintro rfl;revert h;decide
  rintro rfl;revert h;decide
 exact⟨by decide,by decide⟩
theorem zZ(x):kP x≠iK/\kP x≠lk:=by
 grind[kP,iK,lk]
theorem Cz{i}(hi:i<t.length)(h:(nxT t i).sym=iK):∀k,k<(nxT t i).text.length->48<=bt (nxT t i).text k/\bt (nxT t i).text k<=57:=by
 unfold nxT at h⊢;split at h
 ·exact absurd h (zY _).1
 split at h
 ·rename_i c1 c2;rw[hC c1,hD c2];simp only at h⊢;unfold tr at h;split at h
  ·exact absurd h xab
  rename_i c3;have e:rZ t i=gM dig t i:=by unfold rZ;grind
  rw[e];intro k O;rw[yT (lA _ t i xaa)]at O;rw[FX O];exact sZ (yR i _ xaa xaa)
 exact absurd h (zZ _).1
theorem Aa(t i):∀C∈kr t i,C.sym=iK->∀k,k<C.text.length->48<=bt C.text k/\bt C.text k<=57:=by
 intro C am au;rw[kr]at am;split at am
 ·rename_i h;split at am
  ·simp_all[Cz]
  rcases List.mem_cons.1 am with c|c
  ·subst c;exact Cz h au
  exact Aa t _ _ c au
 cases am
termination_by t.length-i
decreasing_by
 grind[tu,pE]
theorem Oe{l}(h:∀k,k<l.length->48<=bt l k/\bt l k<=57)(ad:ki l):Dgs l:=by
 refine⟨?_,h⟩
 have ah:(gV l).countP dig=(gV l).length:=by
  rw[List.countP_eq_length];intro x an;unfold gV at an;obtain⟨b,hb,rfl⟩:=List.mem_map.1 an;obtain⟨k,O,rfl⟩:=List.getElem_of_mem hb;have:=h k O;unfold bt at this;rw[yai,yam O]at this;simp only[Option.getD_some]at this;simp[dig];omega
 have N:=ad.2;rw[ah]at N;unfold gV at N;grind
def isN(tk:Tok):Prop:=tk.sym=iK\/tk.sym=lk
def H7(x:List UInt8)(c:Int):Prop:=(¬wQ (gV x)/\c=2)\/(wQ (gV x)/\15<(gV x).countP dig/\c=5)
theorem Ab{x}(h:RN (gV x) f c):(ki x/\c=0)\/(H7 x c/\c≠0):=by
 rcases h with⟨F,_,N⟩|⟨F,N,_,h3⟩|⟨F,N,_,_,h3⟩
 ·exact .inr ⟨.inl ⟨F,N⟩,by omega⟩
 ·exact .inr ⟨.inr ⟨F,N,h3⟩,by omega⟩
 exact .inl ⟨⟨F,N⟩,h3⟩
def LSt.zero:LSt:=⟨[],[],[],[],0⟩
theorem K1:Gd LSt.zero:=⟨by decide,by decide,by decide,λv aO=>(by cases aO),by decide,by decide,by decide⟩
theorem K2:NmOK LSt.zero:=λb hb=>by cases hb
theorem Et{s ss r}(h:oH f st (s::ss)=some r):∃ay,iI f st s=some ay/\(∀q,ay=.error q->r=.error q)/\(∀ax,ay=.ok ax->oH f ax ss=some r):=by
 grind[oH]
def CM(st:LSt)(r:Rs (LSt×Nat)):Prop:=∀s x,r=.ok (s,x)->st.calls<=s.calls
theorem CM.err{q}:CM st (.error q):=λs x h=>by cases h
theorem CM.back{a}(h:a.calls<=b.calls)(k:CM b r):CM a r:=λs x e=>yao h (k s x e)
theorem kN(st v p):CM st (fN st v p):=λs x h=>by
 grind[fN]
theorem xZ(n p):∀(xs:List Nat) (st s:LSt) (aY:List Nat),iC n p st xs=.ok (s,aY)->st.calls<=s.calls
 |[],st,s,aY,h=>by grind[iC]
 |i::r,st,s,aY,h=>by
  rw[iC]at h
  split at h
  ·cases aM:fN st (eK 10 n (i:Int) 0 0) p with
   |error q=>grind
   |ok y=>
    obtain⟨ax,j⟩:=y
    rw[aM]at h
    simp only at h
    cases a5:iC n p ax r with
    |error q=>grind
    |ok y=>
     obtain⟨aU,e⟩:=y
     rw[a5]at h
     cases h
     exact yao (kN _ _ p _ j aM) (xZ n p r _ _ _ a5)
  ·cases a5:iC n p st r with
   |error q=>grind
   |ok y=>
    obtain⟨aU,e⟩:=y
    rw[a5]at h
    cases h
    exact xZ n p r _ _ _ a5
theorem yd{s xs p}(h:jJ st xs p=.ok (s,aY)):st.calls<=s.calls:=by
 unfold jJ at h;split at h
 ·exact xZ _ p _ _ s _ h
 cases h
theorem rA(st m p):CM st (iJ st m p):=λs x h=>by
 grind[iJ]
theorem Of(st o a b):CM st (qD st o a b):=by
 unfold qD;cases a5:jJ st [a,b] o.pos with
 |error q=>exact .err
 |ok y=>exact CM.back (yd a5) (kN _ _ _)
theorem K3(st k a b):CM st (qE st k a b):=by
 unfold qE;cases a5:jJ st [a,b] k.pos with
 |error q=>exact .err
 |ok y=>
  simp only;split
  ·exact CM.back (yd a5) (kN _ _ _)
  cases aM:fN y.1 (eK 4 (eX y.1 (y.2.getD 0 0)) (y.2.getD 0 0:Nat) (y.2.getD 1 0:Nat) 0) k.pos with
  |error q=>exact .err
  |ok z=>exact CM.back (yao (yd a5) (kN _ _ _ _ _ aM)) (kN _ _ _)
theorem Og(st k a b c):CM st (xQ st k a b c):=by
 unfold xQ;cases a5:jJ st [a,b,c] k.pos with
 |error q=>exact .err
 |ok y=>exact CM.back (yd a5) (kN _ _ _)
theorem Eu(st k a n):CM st (lV st k a n):=by
 unfold lV;split
 ·split
  ·exact .err
  exact kN _ _ _
 split
 ·exact .err
 split
 ·exact .err
 exact kN _ _ _
theorem Ev(st k a i n):CM st (lW st k a i n):=by
 unfold lW;split
 ·exact .err
 split
 ·exact .err
 split
 ·exact .err
 exact kN _ _ _
theorem K4(st k a x):CM st (py st k a x):=by
 unfold py;split
 ·exact .err
 exact rA _ _ _
theorem Oh(st k a x d):CM st (pJ st k a x d):=by
 unfold pJ;split
 ·cases aM:fN st (eK 10 (eX st x) (d:Int) 0 0) k.pos with
  |error q=>exact .err
  |ok y=>exact CM.back (kN _ _ _ _ _ aM) (rA _ _ _)
 split
 ·exact .err
 exact rA _ _ _
theorem kU{a p}(F:∀r,a=some r->CM st r)(N:∀s x,∀r,p s x=some r->CM s r):∀r,jp a p=some r->CM st r:=λr h=>by
 cases ar:a with
 |none=>rw[ar]at h;cases h
 |some ay=>
  rw[ar]at h
  rcases ay with q|⟨s,x⟩
  ·cases h;exact .err
  ·exact CM.back (F _ ar s x rfl) (N s x r h)
theorem ye{p}(aM:∀s e r,p s e=some r->CM s r):∀(es:List Ex) (st s:LSt) (xs:List Nat),fY p st es=some (.ok (s,xs))->st.calls<=s.calls
 |[],st,s,xs,h=>by grind[fY]
 |e::es,st,s,xs,h=>by
  rw[fY]at h
  cases F:p st e with
  |none=>grind
  |some ay=>
   rw[F]at h
   rcases ay with aC|⟨ax,x⟩
   ·cases h
   ·simp only at h
    cases N:fY p ax es with
    |none=>grind
    |some a0=>
     rw[N]at h
     rcases a0 with aL|⟨aU,bJ⟩
     ·cases h
     ·cases h
      exact yao (aM _ e _ F _ x rfl) (ye aM _ _ s _ N)
theorem sG:∀(f:Nat) (st:LSt) (u:Loc) (e:Ex) (r:Rs (LSt×Nat)),eM f st u e=some r->CM st r
 |0,st,u,e,r,h=>by rw[eM]at h;cases h
 |f+1,st,u,e,r,h=>by
  have G:∀st u e r,eM f st u e=some r->_:=λst u e r h=>sG f _ _ e r h
  have g:∀{st:LSt}{a r:Rs _},CM st a->some a=some r->_:=λh e=>by cases e;exact h
  cases e with
  |num t=>rw[eM]at h;exact g (kN _ _ _) h
  |name t=>
   rw[eM]at h
   cases aO:fx st u t with
   |error q=>rw[aO]at h;exact g .err h
   |ok v=>rw[aO]at h;exact g (λs x e=>by cases e;exact yad) h
  |neg o a=>grind[eM,kU,kN]
  |bin o a b=>rw[eM]at h;exact kU (λr h=>G _ _ _ r h) (λs x r h=>kU (λr h=>G _ _ _ r h) (λs x r h=>g (Of _ _ _ _) h) r h) r h
  |call t es=>
   rw[eM]at h
   cases a5:iQ st.names t.text with
   |none=>rw[a5]at h;exact g .err h
   |some b=>
    rw[a5]at h
    cases b with
    |val _ _=>exact g .err h
    |fn bb ps C=>
     simp only at h
     by_cases c:ps.length=es.length
     ·rw[hD c]at h
      cases ar:fY (λs e=>eM f s u e) st es with
      |none=>rw[ar]at h;cases h
      |some q=>
       rw[ar]at h
       rcases q with q|⟨ax,xs⟩
       ·exact g .err h
       ·have ah:=ye (λs e r h=>G s _ e r h) _ _ _ xs ar
        simp only at h
        by_cases d:500<=ax.calls
        ·rw[hD d]at h;exact g .err h
        ·rw[hC d]at h
         exact CM.back (by show st.calls<=ax.calls+1;omega) (G _ _ _ r h)
     ·rw[hC c]at h;exact g .err h
  |key1 k a=>
   grind[eM,kU,kN]
  |key2 k a b=>grind[eM,kU,K3]
  |key3 k a b c=>grind[eM,kU,Og]
  |keyN k a n=>grind[eM,kU,Eu]
  |put k a i n=>rw[eM]at h;exact kU (λr h=>G _ _ _ r h) (λs x r h=>g (Ev _ _ _ _ _) h) r h
  |grad k a x=>
   rw[eM]at h
   cases aO:fx st u x with
   |error q=>rw[aO]at h;exact g .err h
   |ok v=>rw[aO]at h;exact kU (λr h=>G _ _ _ r h) (λs x r h=>g (K4 _ _ _ _) h) r h
  |jvp k a x d=>
   rw[eM]at h
   cases aO:fx st u x with
   |error q=>rw[aO]at h;exact g .err h
   |ok v=>grind[kU,Oh]
def EvT{α:Type}(Eaa:Nat->Option (Rs α)):Prop:=∃r f,∀g,f<=g->Eaa g=some r
theorem EvT.const{K}(r:Rs K):EvT (λ_=>some r):=⟨r,0,λ_ _=>rfl⟩
theorem EvT.succ{K}{Eaa bg:Nat->Option (Rs K)}(h:∀g,Eaa (g+1)=bg g)(k:EvT bg):EvT Eaa:=by
 obtain⟨r,f,k⟩:=k;refine⟨r,f+1,λg aJ=>?_⟩;obtain⟨aq,rfl⟩:∃aq,g=aq+1:=⟨g-1,by omega⟩
 grind
theorem EvT.then{A}{p:Nat->LSt->Nat->Option (Rs (LSt×Nat))}(F:EvT A)(N:∀f s x,A f=some (.ok (s,x))->EvT (λg=>p g s x)):EvT (λg=>jp (A g) (p g)):=by
 obtain⟨ay,f1,aw⟩:=F;rcases ay with q|⟨s,x⟩
 ·exact⟨_,_,λg aJ=>by dsimp only;rw[aw g aJ];rfl⟩
 obtain⟨a0,f2,ak⟩:=N _ s x (aw _ yad);exact⟨_,max f1 f2,λg aJ=>by dsimp only;rw[aw g xaa];exact ak g xaa⟩
theorem Ac{p:Nat->LSt->Ex->Option (Rs (LSt×Nat))}(aM:∀g s e r,p g s e=some r->CM s r):∀(es:List Ex) (st:LSt),(∀e∈es,∀s,st.calls<=s.calls->EvT (λg=>p g s e))->EvT (λg=>fY (p g) st es)
 |[],st,_=>⟨.ok (st,[]),0,λg _=>by dsimp only;rw[fY]⟩
 |e::es,st,h=>by
  obtain⟨ay,f1,aw⟩:=h e xac _ yad
  dsimp only at aw
  rcases ay with q|⟨s,x⟩
  ·exact⟨.error q,f1,λg aJ=>by dsimp only;rw[fY,aw g aJ]⟩
  ·have au:=aM _ _ e _ (aw _ yad) s x rfl
   obtain⟨a0,f2,ak⟩:=Ac aM es s (λe aZ B h'=>h e (by simp[aZ]) _ (yao au h'))
   dsimp only at ak
   rcases a0 with q|⟨aU,xs⟩
   ·exact⟨.error q,max f1 f2,λg aJ=>by grind[fY]⟩
   ·exact⟨.ok (aU,x::xs),max f1 f2,λg aJ=>by grind[fY]⟩
theorem ur:∀(k n:Nat) (e:Ex),SizeOf.sizeOf e<=n->∀(st:LSt) (u:Loc),501-st.calls<=k->EvT (λg=>eM g st u e)
 |k,0,e,ad,st,u,O=>by cases e<;>simp at ad
 |k,n+1,e,ad,st,u,O=>by
  have sub:∀(a:Ex),SizeOf.sizeOf a<=n->∀s,st.calls<=s.calls->EvT (λg=>eM g s u a):=λa ar s au=>ur k n a ar s u xaa
  have b2:∀{g:Nat}{a:Ex}{s B:LSt}{x:Nat},eM g s u a=some (.ok (B,x))->_:=λh=>sG _ _ _ _ _ h _ _ rfl
  cases e with
  |num t=>exact .succ (λg=>by rw[eM]) (.const _)
  |name t=>exact .succ (λg=>by rw[eM]) (.const _)
  |neg o a=>exact .succ (λg=>by rw[eM]) (.then (sub a (by grind) st yad) (λf s x h=>.const _))
  |bin o a b=>exact .succ (λg=>by rw[eM]) (.then (sub a (by grind) st yad) (λf s x h=>.then (sub b (by grind) s (b2 h)) (λf s x h=>.const _)))
  |call t es=>
   refine .succ (λg=>by rw[eM]) ?_
   cases a5:iQ st.names t.text with
   |none=>exact .const _
   |some b=>
    cases b with
    |val _ _=>exact .const _
    |fn bb ps C=>
     simp only
     by_cases c:ps.length=es.length
     ·simp only[hD c]
      obtain⟨H,f1,aw⟩:=Ac (p:=λg s e=>eM g s u e) (λg s e r h=>sG g s u e r h) es st (λe aZ s au=>sub e (by have:=List.sizeOf_lt_of_mem aZ;grind) s au)
      dsimp only at aw
      rcases H with q|⟨ax,xs⟩
      ·exact⟨.error q,f1,λg aJ=>by grind⟩
      ·have au:=ye (p:=λs e=>eM f1 s u e) (λs e r h=>sG f1 s u e r h) es st ax xs (aw f1 yad)
       by_cases d:500<=ax.calls
       ·exact⟨.error (5,t.pos),f1,λg aJ=>by simp_all⟩
       ·match k,O with
        |0,O=>omega
        |k+1,O=>
         obtain⟨a0,f2,ak⟩:=ur k (SizeOf.sizeOf C) C yad {ax with calls:=ax.calls+1} ((ps.map (·.text)).zip xs) (by show 501-(ax.calls+1)<=k;omega)
         dsimp only at ak
         exact⟨a0,max f1 f2,λg aJ=>by dsimp only;rw[aw g xaa];simp only;rw[hC d];exact ak g xaa⟩
     ·simp only[hC c];exact .const _
  |key1 y a=>exact .succ (λg=>by rw[eM]) (.then (sub a (by grind) st yad) (λf s x h=>.const _))
  |key2 y a b=>exact .succ (λg=>by rw[eM]) (.then (sub a (by grind) st yad) (λf s x h=>.then (sub b (by grind) s (b2 h)) (λf s x h=>.const _)))
  |key3 y a b c=>exact .succ (λg=>by rw[eM]) (.then (sub a (by grind) st yad) (λf s x h=>.then (sub b (by grind) s (b2 h)) (λf aU x N=>.then (sub c (by grind) aU (yao (b2 h) (b2 N))) (λf s x h=>.const _))))
  |keyN y a m=>exact .succ (λg=>by rw[eM]) (.then (sub a (by grind) st yad) (λf s x h=>.const _))
  |put y a i m=>exact .succ (λg=>by rw[eM]) (.then (sub a (by grind) st yad) (λf s x h=>.const _))
  |grad y a x=>
   refine .succ (λg=>by rw[eM]) ?_
   cases fx st u x with
   |error q=>exact .const _
   |ok v=>exact .then (sub a (by grind) st yad) (λf s x h=>.const _)
  |jvp y a x d=>
   refine .succ (λg=>by rw[eM]) ?_
   cases fx st u x with
   |error q=>exact .const _
   |ok v=>exact .then (sub a (by grind) st yad) (λf s x h=>.then (sub d (by grind) s (b2 h)) (λf s x h=>.const _))
termination_by k n=>(k,n)
theorem ut(st u e):EvT (λg=>eM g st u e):=ur _ _ e yad st u yad
theorem CA(e i s):∀(k:Nat) (st:LSt),EvT (λg=>nH g e i s k st)
 |0,st=>⟨.ok st,0,λg _=>by dsimp only;rw[nH]⟩
 |k+1,st=>by
  obtain⟨ay,f1,aw⟩:=ut st [] e
  dsimp only at aw
  rcases ay with q|⟨ax,v⟩
  ·exact⟨.error q,f1,λg aJ=>by dsimp only;rw[nH,aw g aJ]⟩
  ·obtain⟨a0,f2,ak⟩:=CA e i s k (ax.setV i s v)
   exact⟨a0,max f1 f2,λg aJ=>by grind[nH]⟩
theorem H8(st s):EvT (λg=>iI g st s):=by
 cases s with
 |outS k e=>
  simp only[iI];by_cases c:50<=st.outs.length
  ·simp only[hD c];exact .const _
  simp only[hC c];obtain⟨r,f,h⟩:=ut st [] e;dsimp only at h;exact⟨Od r,f,λg aJ=>by grind⟩
 |rep i n e=>
  simp only[iI];cases iQ st.names n.text with
  |none=>exact .const _
  |some b=>
   cases b with
   |fn _ _ _=>exact .const _
   |val _ _=>
    simp only;by_cases c:100<ik i.text
    ·simp only[hD c];exact .const _
    simp only[hC c];exact CA _ _ _ _ _
 |defS n ps e=>simp only[iI,pi];cases iQ st.names n.text<;>exact .const _
 |inS n l=>simp only[iI,pi];cases iQ st.names n.text<;>exact .const _
 |letS n e=>
  simp only[iI,pi];cases iQ st.names n.text with
  |some _=>exact .const _
  |none=>
   obtain⟨r,f,h⟩:=ut st [] e;dsimp only at h;exact⟨qH n.text r,f,λg aJ=>by grind⟩
theorem Ad:∀(ss:List Sm) (st:LSt),EvT (λg=>oH g st ss)
 |[],st=>⟨.ok st,0,λg _=>by dsimp only;rw[oH]⟩
 |s::ss,st=>by
  obtain⟨ay,f1,aw⟩:=H8 st s
  dsimp only at aw
  rcases ay with q|ax
  ·exact⟨.error q,f1,λg aJ=>by dsimp only;rw[oH,aw g aJ]⟩
  ·obtain⟨a0,f2,ak⟩:=Ad ss ax
   exact⟨a0,max f1 f2,λg aJ=>by grind[oH]⟩
theorem CB{i}(k)(h:okV ins vs i=true):okV (ins++[k]) vs i=true:=by
 grind[okV,fR]
theorem K5(ins vs){k}(O:1<=k/\k<=1000):okV (ins++[k]) (vs++[eK 0 k (ins.length:Int) 0 0]) vs.length=true:=by
 have aO:(vs++[eK 0 k (ins.length:Int) 0 0]).getD vs.length hF=eK 0 k (ins.length:Int) 0 0:=by simp_all
 unfold okV;rw[aO,hD (show(eK 0 k (ins.length:Int) 0 0).op=0 from rfl)];simp only[Bool.and_eq_true];refine⟨⟨?_,?_⟩,?_,?_⟩
 ·grind[lenB]
 ·simp[fW,cnt,iU]
 ·grind[fR]
 simp_all
theorem M6(g:Gd st)(k)(h:st.ins.length<20):Gd {st with ins:=st.ins++[k]}:=
 ⟨g.n,g.c,List.all_eq_true.2 (λi hi=>CB k (List.all_eq_true.1 g.ok i hi)),g.k,by grind,g.o,g.m⟩
theorem M7(g:Gd st){k}(O:1<=k/\k<=1000):GVal (st.ins++[k]) (st.vs++[eK 0 k (st.ins.length:Int) 0 0]):=by
 refine⟨λi hi=>?_,uj g.k (by grind)⟩;rw[yal,List.length_singleton]at hi;by_cases c:i<st.vs.length
 ·exact wI c (CB k (g.v.1 i c))
 grind[K5]
def PT:Sm->Prop
 |.inS _ l=>Dgs l.text
 |.letS _ e=>EOK e
 |.rep i _ e=>Dgs i.text/\EOK e
 |.defS _ _ e=>EOK e
 |.outS _ e=>EOK e
structure Sg(a b:LSt):Prop where
 g:Gd b
 nm:NmOK b
 n:a.vs.length<=b.vs.length
 m:b.names.length<=a.names.length+1
theorem CC(h:NmOK st){b}(hb:BOK st.vs.length b):NmOK {st with names:=st.names++[b]}:=λx an=>by
 rcases List.mem_append.1 (show x∈st.names++[b] from an) with c|c
 ·exact h x c
 simp_all
theorem CD(g:Gd st)(b)(h:st.names.length<5000):Gd {st with names:=st.names++[b]}:=
 ⟨g.n,g.c,g.ok,g.k,g.i,g.o,by grind⟩
theorem Oi(g:Gd st)(v)(h:st.outs.length<50):Gd {st with outs:=st.outs++[v]}:=
 ⟨g.n,g.c,g.ok,g.k,g.i,by grind,g.m⟩
theorem vN{g s}(am:st.names.length=g.names.length)(ad:g.vs.length<=st.vs.length)(bb:NmOK st)(bF:g.names.length<5000)(aD:RsG st r)(h:qH t r=.ok s):Sg g s:=by
 rcases r with q|⟨ax,v⟩
 ·cases h
 cases h;obtain⟨w,aO⟩:=aD _ v rfl;exact⟨CD w.g _ (by rw[w.m,am];exact bF),CC (bb.gw w) aO,yao ad w.n,by show(ax.names++[_]).length<=_;rw[yal,w.m,am];simp⟩
theorem Ae{f e}(aZ:EOK e)(i s):∀(k:Nat) (st B:LSt),Gd st->NmOK st->nH f e i s k st=some (.ok B)->Gd B/\NmOK B/\st.vs.length<=B.vs.length/\B.names.length=st.names.length
 |0,st,B,g,bb,h=>by grind[nH]
 |k+1,st,B,g,bb,h=>by
  rw[nH]at h
  cases F:eM f st [] e with
  |none=>grind
  |some ay=>
   rw[F]at h
   rcases ay with q|⟨ax,v⟩
   ·cases h
   ·obtain⟨w,aO⟩:=gn f _ _ e g bb (λb hb=>by cases hb) aZ _ F _ v rfl
    have aN:Gd (ax.setV i s v):=⟨w.g.n,w.g.c,w.g.ok,w.g.k,w.g.i,w.g.o,by show(ax.names.set i _).length<=5000;rw[List.length_set];exact w.g.m⟩
    have n2:NmOK (ax.setV i s v):=λb hb=>by
     rcases List.mem_or_eq_of_mem_set (show b∈ax.names.set i _ from hb) with c|c
     ·exact bb.gw w b c
     ·subst c;exact aO
    obtain⟨aw,ak,aR,bM⟩:=Ae aZ i s k _ _ aN n2 h
    exact⟨aw,ak,yao w.n aR,by rw[bM];show(ax.names.set i _).length=_;rw[List.length_set,w.m]⟩
theorem Ew{B s}(g:Gd st)(bb:NmOK st)(bF:st.names.length<5000)(au:PT s)(h:iI f st s=some (.ok B)):Sg st B:=by
 cases s with
 |outS k e=>
  simp only[iI]at h;by_cases c:50<=st.outs.length
  ·grind
  rw[hC c]at h;cases F:eM f st [] e with
  |none=>grind
  |some ay=>
   rw[F]at h;rcases ay with q|⟨ax,v⟩
   ·cases h
   obtain⟨w,aO⟩:=gn f _ _ e g bb (λb hb=>by cases hb) au _ F _ v rfl;cases h;exact⟨Oi w.g _ (hN w.o),(λb hb=>bb.gw w b hb),w.n,by show ax.names.length<=_;rw[w.m];omega⟩
 |rep i n e=>
  simp only[iI]at h;split at h
  ·split at h
   ·cases h
   obtain⟨aw,ak,aR,bM⟩:=Ae au.2 _ _ _ _ _ g bb h;exact⟨aw,ak,aR,by omega⟩
  cases h
 |defS n ps e=>
  simp only[iI,pi]at h;split at h
  ·cases h
  simp only[H4]at h;split at h
  ·cases h
  cases h;exact⟨CD g _ bF,CC bb au,yad,by simp_all⟩
 |letS n e=>
  simp only[iI,pi]at h;split at h
  ·cases h
  cases F:eM f st [] e with
  |none=>grind
  |some ay=>
   rw[F]at h;exact vN rfl yad bb bF (gn f _ _ e g bb (λb hb=>by cases hb) au _ F) (hE h)
 |inS n l=>
  simp only[iI,pi]at h;split at h
  ·cases h
  simp only[inR]at h;split at h
  ·cases h
  split at h
  ·cases h
  rename_i c1 c2;have O:1<=ik l.text/\ik l.text<=1000:=xaa;exact vN (st:={st with ins:=st.ins++[ik _]}) rfl yad bb bF (jM (M6 g _ xaa) (M7 g O) _) (hE h)
end
section
attribute[local go_sem] eF eE eD
theorem K6{W P}(bF:W.cell? ⟨P,5,none⟩=some (hA 0))(bp:W.cell? ⟨P,6,none⟩=some (hA 0))(fr:∀o,W.frozen? ⟨P,o,none⟩=false)(c)(p:Nat)(M)(bx:M P):
  Calls prog 100 #[hy P,hA c,hA p] W λe I=>e=.returned (hA (-1))/\Bad W P M c p I/\∀o,o≠5->o≠6->I.cell? ⟨P,o,none⟩=W.cell? ⟨P,o,none⟩:=by
 have ap:=fr 5;have ar:=fr 6;have R1:E (((W.setCell _ _).setCell ⟨P,6,_⟩ (hA p)).cell? _=some (hA c)):=(eQ _ _ _ _ _ _ (.inr xaa)).trans (fy _ _ _ _ _ bF);have R2:E (((W.setCell ⟨P,5,_⟩ (hA c)).setCell _ (hA p)).cell? _=some _):=fy _ _ _ _ _ ((eQ _ _ _ _ _ _ (.inr xaa)).trans bp);have R3:E _:=Chg.andThen ((eR W ⟨P,5,none⟩ (hA c) yac).chg1 bx) ((eR _ ⟨P,6,none⟩ (hA p) yac).chg1 bx);have s:E (∀o,o≠5->o≠6->((W.setCell ⟨P,5,_⟩ (hA c)).setCell ⟨P,6,_⟩ (hA p)).cell? ⟨P,o,_⟩=W.cell? _):=λo F N=>(eQ _ _ _ _ _ _ (.inr (λe=>N e.symm))).trans (eQ _ _ _ _ _ _ (.inr (λe=>F e.symm)));clear fr bx;go_enter func100,ntmps100;go_wp2;go_ret;exact⟨rfl,⟨R1.o,R2.o,R3.o⟩,s.o⟩
theorem A.qao(h:Zp:=by
 go_region_law
  ((refine step_append_lies _ rfl _ _ _ rfl J 62 _ _ 6 _ underlying24 hi b4 b3 b0 rfl xab _ _ _ (by simp[Act.eval]) (kE a6.o 1 _) _ 1 1 _ (by simp[Act.eval]) rfl (B7 _ _ _) (FK v) xab (by unfold maxLen;omega) xaa yag _ rfl ?_;intro g9 cap9 bj bF aW bT cz;have aZ:=kG aW be HR.o.1 c1;have bG:=far2 aW be HR.o.1 ca;have ax:=kG aW i HR.o.2 aD;have aU:=kG aW i HR.o.2 a5;have bx:=kG aW i HR.o.2 a7;have cD:=kG aW i HR.o.2 z;have cJ:=kG aW i HR.o.2 G;have cl:=kG aW i HR.o.2 F))
 all_goals
  have bQ:=bT.imp id (λe=>Nat.le_of_eq e.symm)
  have aQ:=(ez 0 0 aA (.cells #[hA v.op,hA v.len,hA v.a,hA v.b,hA v.c,.float .f64 v.k] 62)).trans (eJ 0 0 _ 1)
  have m:bj.ownsRow J 62 6 (hz g9 (aV+1) cap9) (aV+1) (fF (st.vs++[v])):=by rw[mf,qb];exact bF
  obtain⟨(o:E _),H⟩:=(bE.o.keep aQ).vals (gh aW) (by rw[yal,bm.o];rfl) m bQ
  have bf:E _:=(N.o.keep aQ).trans H
  clear H bQ aQ bF m aW bT cz aZ bG ax aU bx cD cJ cl aD a5 a7 z G F ca c1 a6 bE N
  generalize bj.setCell ⟨P,1,_⟩ _=am at o bf⊢
  obtain⟨a1,bo,a2',bw,a3,bR,ae,a9,ai,Z⟩:=o.o.gs bB.o
  simp only at ae ai Z
  subst ae ai
  have HF:E _:=Br _ _ _ _ _ bo _ bw _ bR _ _ _ Z j.o
  have w:(st.vs++[v]).length=aV+1:=by grind
  have u:E _:=λI=>jO I a1 a2' a3 st.ins.length bo (aV+1) bw st.outs.length bR xaa
  rw[w]at HF a9
  clear Z
  have ba:=o.o.c0
  have aP:=o.o.c1
  have y2:=o.o.c2
  cases a9
  cases hb:jY (st.vs++[v])
  ·rw[hb]at HF bL
   have aX:E _:=bL.o.trans (hC xac)
   have n:E (∀I,Kept 0 0 _ I->I.cell? _=some _/\I.cell? _=some _/\I.cell? _=some _):=λI k=>⟨(o.o.keep k).c0,(o.o.keep k).c1,(o.o.keep k).c2⟩
   clear hb bL
   go_wp2_with (first
    |(go_at_call 126;refine yaj HF.o ?_;rintro e K ⟨rfl,f⟩;obtain⟨aY,aC,aL⟩:=n.o _ f)
    |(go_at_call 47;refine yaj (u.o _) ?_;rintro e s ⟨rfl,l⟩))
   go_ret
   rw[aX.o]
   exact⟨⟨by simp,_,_,_,_,(o.o.keep f).keep l,(bf.o.keep f).keep l⟩,((o.o.keep f).keep l).c0⟩
  ·rw[hb]at HF bL
   have aX:E _:=bL.o.trans (hD rfl)
   have br:E (∀I,Kept 0 0 _ I->_):=λI k=>K6 (o.o.keep k).c5 (o.o.keep k).c6 (o.o.keep k).fr 5 p (Mst P (.slice a1 st.ins.length bo) (hz g9 (aV+1) cap9) (.slice a3 st.outs.length bR) u4) (.inl rfl)
   clear hb bL
   go_wp2_with (first
    |(go_at_call 126;refine yaj HF.o ?_;rintro e K ⟨rfl,f⟩)
    |(go_at_call 100;refine yaj (br.o _ f) ?_;rintro e s ⟨rfl,aB,x⟩))
   go_ret
   rw[aX.o]
   exact⟨⟨rfl,aB.c5,aB.c6,(bf.o.keep f).bad aB.chg⟩,(x 0 xab xab).trans (o.o.keep f).c0⟩):Zp:=h
open A in
theorem Oj{W P J u1 u2 u3 u4 bs st}(h:WS W P J u1 u2 u3 u4 bs st)(g:Gd st)(v)(aO:1<=v.len/\v.len<=1000)(bg:v.k<18446744073709551616)(p:Nat):
  Calls prog 104 #[hy P,v.agg,hA p] W (λe I=>TrO W P J u1 u2 u3 u4 bs (fN st v p) e I/\I.cell? ⟨P,0,none⟩=some u1):=by
 exact qan
