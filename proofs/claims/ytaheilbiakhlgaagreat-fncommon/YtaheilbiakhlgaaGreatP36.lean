import Derived.Test.YtaheilbiakhlgaaGreatP32
import Derived.Test.YtaheilbiakhlgaaGreatP22
namespace Go.Proofs.Z
variable{Zp:Prop}
open Tryz
set_option maxRecDepth 1000000
set_option maxHeartbeats 0
section
open Go.RowKit Flt
theorem GW{op}(h:op≠1)(len C K e Q S aq):jD op len C K Q S aq=jD op len C e Q S aq:=by
 unfold jD
 have:fD op C K Q S aq=fD op C e Q S aq:=by
  funext k;unfold fD;rw[hG h,hG h]
 rw[this]
theorem mN{vs}(h:Kb vs)(p):∀i,Kb (fA p vs i).1
 |0=>by intro v aM;simp[fA]at aM
 |i+1=>(mN h p i).app (h.at_ i)
theorem ph{vs}(h:Kb vs)(F):∀i,Kb (f9 F vs i).1
 |0=>by intro v aM;simp[f9]at aM
 |i+1=>by
  rw[f9]
  split
  ·exact(ph h F i).app (h.at_ i)
  ·exact ph h F i
end
section
open Go.RowKit Flt
attribute[local go_sem] eF eE eD
variable{w J W':World}{q lo base j n k g c:Nat}{ay:Option Nat}{v u:Value}{b:Option Addr}{xs:List Nat}{l:List (List Nat)}
theorem FS.setS{hi a}(f:FS w lo hi a n xs)(ak:w.cell? ⟨g,k,none⟩=some u)(aI:∀x,u≠.float .f64 x)(v):FS (w.setCell ⟨g,k,none⟩ v) lo hi a n xs:=
 ⟨f.len,f.lt,by
  rcases f.at_ with ai|⟨aA,off,e,B,U,h3,a6⟩
  ·exact .inl ai
  ·refine .inr ⟨aA,off,e,B,U,by simpa using h3,λj hj=>?_⟩
   by_cases c:g=aA/\k=off+j
   ·obtain⟨rfl,rfl⟩:=c
    have:=a6 j hj
    rw[ak]at this
    injection this with this
    exact absurd this (aI _)
   ·rw[eN _ _ _ _ _ _ xaa];exact a6 j hj⟩
theorem Cl.setS{y}(f:Cl w y xs)(ak:w.cell? ⟨g,k,none⟩=some u)(aI:∀x,u≠.float .f64 x)(v):Cl (w.setCell ⟨g,k,none⟩ v) y xs:=by
 obtain⟨b,n,c,zs,B,U,h3,a6⟩:=f;exact⟨b,n,c,zs,B,U,(h3.setS ak aI v).mono yad xac,a6⟩
theorem ju(b n c):∀x,(Value.slice b n c)≠.float .f64 x:=λ_ h=>by cases h
structure LV(w:World)(g n k:Nat)(Vs:List (List Nat)):Prop where
 lt:g<w.heap.size
 free:∀o,w.frozen? ⟨g,o,none⟩=false
 at_:∀j,j<n->∃b m c,w.cell? ⟨g,j,none⟩=some (.slice b m c)/\(j<k->Cl w (.slice b m c) (Vs.getD j []))
theorem LV.keep(f:LV w g n k l)(q:Kept 0 0 w J):LV J g n k l:=
 ⟨yaj f.lt q.size,λo=>by rw[q.frozen (p:=⟨g,o,none⟩) f.lt xaa];exact f.free o,λj hj=>by
  obtain⟨b,m,c,B,U⟩:=f.at_ j hj
  exact⟨b,m,c,jC q f.lt B,λh=>(U h).keep q⟩⟩
theorem LV.made(w:World)(n l):LV (w.alloc (.cells (madeCells #[.slice none 0 0] n) 54)) w.heap.size n 0 l where
 lt:=by simp
 free:=λo=>by simp
 at_:=λj hj=>by
  rw[yau]
  refine⟨none,0,0,?_,λh=>absurd h (Nat.not_lt_zero _)⟩
  simp only[madeCells]
  rw[Array.getElem?_map,Array.getElem?_range,hI hj]
  have aw:j%1=0:=Nat.mod_one j
  simp[aw]
theorem LV.step{xss vs}(f:LV w g n k (fw xss vs k))(O:k<n)(q:Kept 0 0 w J){m}(aI:Cl J (.slice b m c) (one xss (vs.getD k hK) (fw xss vs k))):
  LV (J.setCell ⟨g,k,none⟩ (.slice b m c)) g n (k+1) (fw xss vs (k+1)):=by
 have p:=f.keep q;obtain⟨a9,aL,c0,ak,_⟩:=p.at_ k O;refine⟨by simpa using p.lt,λo=>by simp[p.free o],λj hj=>?_⟩;by_cases e:j=k
 ·subst e;exact⟨b,m,c,fR _ _ _ _ _ ak,λ_=>by rw[kJ];exact aI.setS ak (ju _ _ _) _⟩
 obtain⟨N,m1,c1,B,U⟩:=p.at_ j hj;refine⟨N,m1,c1,by rw[eN _ _ _ _ _ _ (.inr (Ne.symm e))];exact B,λh=>?_⟩;rw[jh _ _ xaa];exact(U xaa).setS ak (ju _ _ _) _
theorem mz(F:Nat->List Nat)(h:j<n):((List.range n).map F).getD j []=F j:=by
 simp[List.getD_eq_getElem?_getD,h]
theorem LV.ss(f:LV w g n n l):∃z,SS w (some ⟨g,0,none⟩) n z/\∀j,j<n->gH (z.getD j []) (l.getD j []):=by
 have h:∀j,∃zs:List Nat,j<n->∃b c,w.cell? ⟨g,j,none⟩=some (.slice b zs.length c)/\zs.length<=c/\FS w 0 w.heap.size b zs.length zs/\gH zs (l.getD j []):=λj=>by
  by_cases hj:j<n
  ·obtain⟨b,m,c,B,U⟩:=f.at_ j hj
   obtain⟨Q,S,y,zs,e,a1,Z,a3⟩:=U hj
   exact xkk
  ·exact⟨[],λc=>absurd c hj⟩
 obtain⟨F,bx⟩:=Classical.axiomOfChoice h;refine⟨(List.range n).map F,⟨by simp,.inr ⟨g,0,rfl,f.lt,λk O=>?_⟩⟩,λj hj=>?_⟩
 ·rw[mz F O,Nat.zero_add];obtain⟨b,c,a1,Z,a3,_⟩:=bx k O;exact⟨b,c,a1,Z,a3⟩
 rw[mz F hj];obtain⟨b,c,_,_,_,a4⟩:=bx j hj;exact a4
theorem kP{e size:Nat}{xs W}(h:W.ownsRow base e size v n xs)(k:Kept 0 0 W W'):W'.ownsRow base e size v n xs:=by
 refine⟨h.1,h.2.imp id ?_⟩;rintro⟨g,cap,H,af,N,aD,ad⟩;refine⟨g,cap,H,af,N,?_,ad⟩
 have aQ:g<W.heap.size:=by
  exact xdl
 rw[k.block g aQ xaa];exact aD
theorem FS.grown{W zs}(f:FS W 0 W.heap.size b n zs)(aQ:W.grownBy W' ay)(ca:0<n->∀p,b=some p->ay≠some p.block):FS W' 0 W'.heap.size b n zs:=
 ⟨f.len,f.lt,by
  rcases f.at_ with ai|⟨aA,off,e,B,U,h3,a6⟩
  ·exact .inl ai
  ·refine .inr ⟨aA,off,e,B,yaj h3 aQ.size,yaj h3 aQ.size,λj hj=>?_⟩
   rw[aQ.cell_far ⟨aA,off+j,none⟩ h3 (λc=>ca xaa _ e c.symm)]
   exact a6 j hj⟩
theorem Cl.grown{W}(f:Cl W (.slice b n c) xs)(aQ:W.grownBy W' ay)(ca:0<n->∀p,b=some p->ay≠some p.block):Cl W' (.slice b n c) xs:=by
 obtain⟨Q,S,y,zs,e,U,h3,a6⟩:=f;cases e;exact⟨b,n,c,zs,rfl,U,h3.grown aQ ca,a6⟩
theorem Cl.lt{W}(f:Cl W (.slice b n c) xs)(hn:0<n)(p)(aF:b=some p):p.block<W.heap.size:=by
 obtain⟨Q,S,y,zs,e,U,h3,a6⟩:=f;cases e;rcases h3.at_ with ai|⟨aA,off,e,B,U,h3,a6⟩
 ·omega
 rw[e]at aF;cases aF;exact h3
theorem Cn.ge{W}(f:Cn W lo (.slice b n c) xs)(hn:0<n)(p)(aF:b=some p):lo<=p.block:=by
 obtain⟨Q,S,y,zs,e,U,h3,a6⟩:=f;cases e;rcases h3.at_ with ai|⟨aA,off,e,B,U,h3,a6⟩
 ·omega
 rw[e]at aF;cases aF;exact B
def AR(W:World)(base:Nat)(v:Value)(k:Nat)(Vs:List (List Nat)):Prop:=
 ∃us:List Value,W.ownsRow base 54 1 v k us/\∀j,j<k->∃b n c,us[j]? =some (.slice b n c)/\Cl W (.slice b n c) (Vs.getD j [])/\(0<n->∀p,b=some p->v.ownBlock≠some p.block)
theorem AR.nil(W base l):AR W base (.slice none 0 0) 0 l:=⟨[],yav _ _ _ _,λ_ hj=>absurd hj (Nat.not_lt_zero _)⟩
theorem AR.keep{W}(f:AR W base v k l)(q:Kept 0 0 W W'):AR W' base v k l:=by
 obtain⟨us,B,U⟩:=f;refine⟨us,kP B q,λj hj=>?_⟩;obtain⟨b,n,c,a1,Z,a3⟩:=U j hj;exact⟨b,n,c,a1,Z.keep q,a3⟩
theorem AR.cell{W}(f:AR W base v k l)(O:0<k):
  ∃g cap,v=hE g k cap/\base<=g/\g<W.heap.size/\∀j,j<k->∃b n c,W.cell? ⟨g,j,none⟩=some (.slice b n c)/\Cl W (.slice b n c) (l.getD j [])/\(0<n->∀p,b=some p->g≠p.block):=by
 obtain⟨us,B,U⟩:=f;rcases B.2 with⟨_,c⟩|⟨g,cap,H,rfl,N,aD,ad,_,bE,bY⟩
 ·omega
 have aQ:g<W.heap.size:=by
  exact xdl
 refine⟨g,cap,rfl,N,aQ,λj hj=>?_⟩;obtain⟨b,n,c,a1,Z,a3⟩:=U j hj;refine⟨b,n,c,?_,Z,λhn p aF e=>a3 hn p aF (by rw[<-e];rfl)⟩;rw[cell_of_row W g _ H _ _ aD,<-Array.getElem?_toList];have:(H.toList.take (k*1))[j]? =us[j]?:=by rw[bY]
 rw[List.getElem?_take_of_lt xaa]at this;rw[this,a1]
theorem AR.step{W us}(B:W.ownsRow base 54 1 v k us)
  (U:∀j,j<k->∃b n c,us[j]? =some (.slice b n c)/\Cl W (.slice b n c) (l.getD j [])/\(0<n->∀p,b=some p->v.ownBlock≠some p.block))
  {o}{x} (al:Cl W (.slice b n c) x) (hn:0<n->∀p,b=some p->v.ownBlock≠some p.block) {cap}{be}
  (bv:be.ownsRow base 54 1 (hE g (k+1) cap) (k+1) (us++[.slice b n c])) (aQ:(W.alloc o).grownBy be v.ownBlock) (bm:v.ownBlock=some g\/g=(W.alloc o).heap.size)
  {f} (af:∀j,j<k->f.getD j []=l.getD j []) (a0:f.getD k []=x):AR be base (hE g (k+1) cap) (k+1) f:=by
 have ah:us.length=k:=hO B.1
 have bE:=ez 0 0 W o;have ae:W.heap.size<(W.alloc o).heap.size:=by simp
 have au:∀(b:Option Addr) (n c:Nat) (x:List Nat),Cl W (.slice b n c) x->(0<n->∀p,b=some p->v.ownBlock≠some p.block)->Cl be (.slice b n c) x/\(0<n->∀p,b=some p->(hE g (k+1) cap).ownBlock≠some p.block):=λb n c x ak aM=>
  ⟨(ak.keep bE).grown aQ aM,λai p aF e=>by
    have C:g=p.block:=by simpa[Value.ownBlock] using e
    rcases bm with h|h
    ·exact aM ai p aF (by rw[h,C])
    ·have:=ak.lt ai p aF
     omega⟩
 refine⟨_,bv,λj hj=>?_⟩;by_cases y:j<k
 ·obtain⟨Q,S,i,a1,Z,a3⟩:=U j y;obtain⟨am,an⟩:=au _ _ _ _ Z a3;exact⟨Q,S,i,by rw[yas xaa];exact a1,by rw[af j y];exact am,an⟩
 have:j=k:=xaa;subst this;obtain⟨am,an⟩:=au _ _ _ _ al hn;exact⟨b,n,c,by rw[yar xaa,ah,Nat.sub_self];rfl,hR a0 am,an⟩
theorem AR.ss{W}(f:AR W base v k l):∃a cap z,v=.slice a k cap/\SS W a k z/\∀j,j<k->gH (z.getD j []) (l.getD j []):=by
 rcases Nat.eq_zero_or_pos k with ai|ai
 ·subst ai;obtain⟨us,B,_⟩:=f;rcases B.2 with⟨rfl,_⟩|⟨g,cap,H,rfl,_⟩
  ·exact⟨none,0,[],rfl,⟨rfl,.inl rfl⟩,λj hj=>absurd hj (Nat.not_lt_zero _)⟩
  exact⟨_,cap,[],rfl,⟨rfl,.inl rfl⟩,λj hj=>absurd hj (Nat.not_lt_zero _)⟩
 obtain⟨g,cap,rfl,_,aQ,ak⟩:=f.cell ai
 have h:∀j,∃zs:List Nat,j<k->∃b c,W.cell? ⟨g,j,none⟩=some (.slice b zs.length c)/\zs.length<=c/\FS W 0 W.heap.size b zs.length zs/\gH zs (l.getD j []):=λj=>by
  by_cases hj:j<k
  ·obtain⟨b,m,c,B,U,_⟩:=ak j hj
   obtain⟨Q,S,y,zs,e,a1,Z,a3⟩:=U
   exact xkk
  ·exact⟨[],λc=>absurd c hj⟩
 obtain⟨F,bx⟩:=Classical.axiomOfChoice h;refine⟨_,cap,(List.range k).map F,rfl,⟨by simp,.inr ⟨g,0,rfl,aQ,λj hj=>?_⟩⟩,λj hj=>?_⟩
 ·rw[mz F hj,Nat.zero_add];obtain⟨b,c,a1,Z,a3,_⟩:=bx j hj;exact⟨b,c,a1,Z,a3⟩
 rw[mz F hj];obtain⟨b,c,_,_,_,a4⟩:=bx j hj;exact a4
theorem ut(w)(len A I C:Int)(K g n c m b2 b xss)(aU:SS w b m xss)(ai:0<=A)(B:A<m):
  Calls prog 29 #[gO 0 len A I C K,hE g n c,.slice b m b2] w λe J=>∃Q S y,e=.returned (.slice Q S y)/\Cl J (.slice Q S y) (xss.getD A.toNat [])/\Kept 0 0 w J:=by
 obtain⟨j,rfl⟩:∃j:Nat,A=j:=⟨A.toNat,by omega⟩
 rw[Int.toNat_natCast];rcases aU.at_ with z|⟨ca,bB,rfl,aR,aV⟩
 ·omega
 obtain⟨aD,h,c2,c3,c4⟩:=aV j xaa;have ar:=ez 0 0 w (eM 0 len j I C K);have R:V (Cl (w.alloc (eM 0 len j I C K)) (.slice aD (xss.getD j []).length h) (xss.getD j [])):=Cl.keep ⟨_,_,_,_,rfl,c3,c4,rfl⟩ ar;have c5:=jC ar aR c2;clear c2 c3 c4 aV aU;generalize xss.getD j []=xs at R c5⊢;go_enter func29,ntmps29;go_wp2;go_ret;exact⟨_,_,_,rfl,R.o,ar⟩
def opl(v:Vl)(Vs:List (List Nat))(q:Nat):List (List Nat):=[if 0<q then Vs.getD v.a.toNat [] else[],if 1<q then Vs.getD v.b.toNat [] else[],if 2<q then Vs.getD v.c.toNat [] else[]]
def kop(v:Vl)(Vs:List (List Nat)):List Nat:=jD v.op v.len v.c v.k ((opl v Vs (cnt v.op)).getD 0 []) ((opl v Vs (cnt v.op)).getD 1 []) ((opl v Vs (cnt v.op)).getD 2 [])
theorem Kq(v l)(ao:q<3):(opl v l q).set q (l.getD ([v.a,v.b,v.c].getD q 0).toNat [])=opl v l (q+1):=by
 have:q=0\/q=1\/q=2:=xaa;rcases this with rfl|rfl|rfl<;>simp[opl]
theorem zp(v)(ao:q<cnt v.op):(eY v).getD q 0=[v.a,v.b,v.c].getD q 0:=by
 unfold eY;rw[yah,yah,List.getElem?_take_of_lt ao]
theorem LV.put{w J g n l}(f:LV w g n n l){j}(hj:j<n)(ah:l.length=n)(q:Kept 0 0 w J){b m c x}(aI:Cl J (.slice b m c) x):
  LV (J.setCell ⟨g,j,none⟩ (.slice b m c)) g n n (l.set j x):=by
 have p:=f.keep q;obtain⟨a9,aL,c0,ak,_⟩:=p.at_ j hj;refine⟨by simpa using p.lt,λo=>by simp[p.free o],λi hi=>?_⟩;by_cases e:i=j
 ·subst e;refine⟨b,m,c,fR _ _ _ _ _ ak,λ_=>?_⟩;rw[yah,List.getElem?_set,hI rfl,hI xaa];exact aI.setS ak (ju _ _ _) _
 obtain⟨N,m1,c1,B,U⟩:=p.at_ i hi;refine⟨N,m1,c1,by rw[eN _ _ _ _ _ _ (.inr (Ne.symm e))];exact B,λh=>?_⟩;rw[yah,List.getElem?_set,hG (Ne.symm e),<-yah];exact(U h).setS ak (ju _ _ _) _
theorem LV.other{P}(f:LV w g n k l)(ca:P≠g)(ak:w.cell? ⟨P,j,none⟩=some u)(aI:∀x,u≠.float .f64 x)(v):LV (w.setCell ⟨P,j,none⟩ v) g n k l:=by
 refine⟨by simpa using f.lt,λo=>by simp[f.free o],λi hi=>?_⟩;obtain⟨N,m1,c1,B,U⟩:=f.at_ i hi;exact⟨N,m1,c1,by rw[eN _ _ _ _ _ _ (.inl ca)];exact B,λh=>(U h).setS ak aI _⟩
theorem DK(w:World):LV (w.alloc (.cells #[.slice none 0 0,.slice none 0 0,.slice none 0 0] 81)) w.heap.size 3 3 [[],[],[]] where
 lt:=by simp
 free:=λo=>by simp
 at_:=λj hj=>by
  have:j=0\/j=1\/j=2:=xaa
  refine⟨none,0,0,?_,λ_=>?_⟩
  ·rcases this with rfl|rfl|rfl<;>simp
  ·rcases this with rfl|rfl|rfl<;>exact Cl.nil _
theorem BZ(w:World)(v):At (w.alloc (eM v.op v.len v.a v.b v.c v.k)) w.heap.size 0 v:=by
 exact xgx
theorem uu(w v)(ai:v.op≠0)(g n c m b2 k b l)(bQ:LV w g n k l)(bE:k<=n)(O:v.k<18446744073709551616)(F:jk l)(B:(eY v).all (fN · k)=true):
  Calls prog 29 #[v.agg,hE g n c,.slice b m b2] w λe J=>∃Q S y,e=.returned (.slice Q S y)/\Cn J w.heap.size (.slice Q S y) (kop v l)/\Kept 0 0 w J:=by
 have t:(v.op==0)=false:=yam ai;have cI:=gK v.op;have am:=ez 0 0 w (eM v.op v.len v.a v.b v.c v.k);have an:=ez 0 0 (w.alloc (eM v.op v.len v.a v.b v.c v.k)) (.cells #[.slice none 0 0,.slice none 0 0,.slice none 0 0] 81);have aY:V _:=DK (w.alloc (eM v.op v.len v.a v.b v.c v.k));have b1:V _:=(BZ w v).keep xac an yaa;have HL:V _:=bQ.keep (am.trans an);have HK:V _:=am.trans an;have ch:V (w.heap.size+1<((w.alloc (eM v.op v.len v.a v.b v.c v.k)).alloc (.cells #[.slice none 0 0,.slice none 0 0,.slice none 0 0] 81)).heap.size):=by show _<_;simp
 have bk:V (g<w.heap.size):=bQ.lt;have bp:V _:=F;have H1:V _:=B;clear ai am an bQ F B;obtain⟨av,ba,bc,z,aa,ap⟩:=b1.o;go_enter func29,ntmps29;go_wp2_with fail;clear av ba bc z aa ap;generalize ((w.alloc (eM v.op v.len v.a v.b v.c v.k)).alloc (.cells #[.slice none 0 0,.slice none 0 0,.slice none 0 0] 81))=aG at aY b1 HL HK ch⊢;refine(pH _ v).mono ?_;rintro e ag ⟨G,rfl,bn,bl,aJ⟩;have bU:V _:=bn
 have bd:LV ag (w.heap.size+1) 3 3 (opl v l 0):=by
  have:=aY.o.keep aJ;rw[show(w.alloc (eM v.op v.len v.a v.b v.c v.k)).heap.size=w.heap.size+1 by simp]at this;exact this
 have f:=b1.o.keep (hO ch.o) aJ yaa;have aw:=HL.o.keep aJ;have P:=HK.o.trans aJ;have cB:V _:=bd;have r:V _:=f;have C:V _:=aw;have bN:V _:=P;have co:V (aG.heap.size<=ag.heap.size):=aJ.size;clear bn bd f aw P aJ aY b1 HL HK;go_wp2_with fail;go_loopw [21] (λi W=>∃q:Nat,q<=cnt v.op/\i=hF q/\V (LV W (w.heap.size+1) 3 3 (opl v l q))/\V (At W w.heap.size 0 v)/\V (LV W g n k l)/\V (IS W aG.heap.size ag.heap.size (some ⟨G,0,none⟩) (cnt v.op) (eY v))/\V (Kept 0 0 w W)) (λi _=>cnt v.op-(intOf i).toNat)
 case atStart=>exact⟨0,Nat.zero_le _,rfl,cB,r,C,bU,bN⟩
 case round=>
  obtain⟨q,ao,rfl,a2,ak,bQ,bn,ar⟩:=hrel;clear cB r C bU bN;by_cases aB:q<cnt v.op
  ·rcases bn.o.at_ with bR|⟨aA,bK,cc,aS,bb,bq,bD⟩
   ·omega
   have c1:=bD q aB;cases cc
   obtain⟨o,ax⟩:∃o:Nat,(eY v).getD q 0=o/\o<k:=by
    have h:=List.all_eq_true.1 H1.o ((eY v).getD q 0) (by
     rw[yah,yal (by rw[ja];exact aB)]
     exact List.getElem_mem _)
    have:=of_decide_eq_true h;exact⟨((eY v).getD q 0).toNat,by omega,by omega⟩
   rw[ax.1,Nat.zero_add]at c1;obtain⟨N,m1,d1,c2,c3⟩:=bQ.o.at_ o xaa;have c4:=c3 ax.2;obtain⟨a9,aL,bw,c5,_⟩:=a2.o.at_ q xaa;have cy:=a2.o.free q
   have R1:V (LV (wr.setCell ⟨w.heap.size+1,q,none⟩ (.slice N m1 d1)) (w.heap.size+1) 3 3 (opl v l (q+1))):=by
    have:=a2.o.put (j:=q) xaa rfl (Kept.refl _ _ _) c4;rw[<-Kq v l xaa,<-zp v aB,ax.1];exact this
   have K:Kept (w.heap.size+1) (w.heap.size+2) wr (wr.setCell ⟨w.heap.size+1,q,none⟩ (.slice N m1 d1)):=eU _ _ _ yac;have R2:V _:=ak.o.keep (hO a2.o.lt) K (.inl xaa);have R3:V _:=bQ.o.other (hO bk.o) c5 (ju _ _ _) (.slice N m1 d1);have aI:V _:=bn.o.keep K (.inr (.inl (hO ch.o)));have bA:V _:=ar.o.new K xaa;have Y:q<3:=xaa;have H:o<n:=xaa;clear aS bb bq bD c3 c4 K a2 ak bQ bn ar H1 ax;go_wp2;go_roundw;exact⟨q+1,by omega,by go_num,R1,R2,R3,aI,bA⟩;simp[intOf];omega
  obtain rfl:q=cnt v.op:=xaa;obtain⟨a9,aL,bw,c0,bg⟩:=a2.o.at_ 0 xaa;obtain⟨N,m1,d1,c1,af⟩:=a2.o.at_ 1 xaa;obtain⟨aD,s,d2,c2,a0⟩:=a2.o.at_ 2 xaa;have HE:V _:=yX wr v O _ _ _ _ _ _ (bg xaa) (af xaa) (a0 xaa) (pQ (bp.o _));obtain⟨av,ba,bc,z,aa,ap⟩:=ak.o;clear bg af a0 a2 bQ bn;go_wp2_with fail;refine yai HE.o ?_;rintro e be ⟨u,rfl,aF,I⟩;obtain⟨bH,n9,X,zs,rfl,U,h3,a6⟩:=aF;have R:V _:=ar.o.trans I;have R2:V (Cn be w.heap.size (.slice bH n9 X) (kop v l)):=⟨bH,n9,X,zs,rfl,U,h3.mono ar.o.size yad,a6⟩
  clear HE c0 c1 c2 av ba bc z aa ap U h3 a6 I ar ak;go_wp2;go_ret;exact⟨bH,n9,X,rfl,R2.o,R.o⟩
theorem AU(w)(v:Vl)(g n c m b2 k b xss l)(bQ:LV w g n k l)(aU:SS w b m xss)(bE:k<=n)(O:v.k<18446744073709551616)(F:jk l)(ai:v.op=0->0<=v.a/\v.a<m)(B:v.op≠0->(eY v).all (fN · k)=true):
  Calls prog 29 #[v.agg,hE g n c,.slice b m b2] w λe J=>∃Q S y,e=.returned (.slice Q S y)/\Cl J (.slice Q S y) (one xss v l)/\Kept 0 0 w J:=by
 unfold one;by_cases h:v.op=0
 ·rw[hI h];have:=ut w v.len v.a v.b v.c v.k g n c m b2 b xss aU (ai h).1 (ai h).2;rw[<-h]at this;exact this
 rw[hG h];exact(uu w v h g n c m b2 k b l bQ bE O F (B h)).mono λ_ _ ⟨Q,S,y,aK,aP,b3⟩=>⟨Q,S,y,aK,aP.cl,b3⟩
end
section
open Go.RowKit Flt Go.Maps
variable{u v:Vl}{us:List Vl}
def pD(v:Vl):Nat:=if v.op=1 then fb v.k else 0
def pE(v:Vl):Value:=.agg #[.int .i64 v.op,.int .i64 v.len,.int .i64 v.a,.int .i64 v.b,.int .i64 v.c,.int .u64 (pD v:Nat)]
def gJ(v:Vl):Lit:=.string (keyBytes [.int .i64 v.op,.int .i64 v.len,.int .i64 v.a,.int .i64 v.b,.int .i64 v.c,.int .u64 (pD v:Nat)])
structure Wf(v:Vl):Prop where
 op:(Lit.int .i64 v.op).wf=true
 len:(Lit.int .i64 v.len).wf=true
 a:(Lit.int .i64 v.a).wf=true
 b:(Lit.int .i64 v.b).wf=true
 c:(Lit.int .i64 v.c).wf=true
 k:(Lit.int .u64 (pD v:Nat)).wf=true
theorem GX:laidOutB prog=true:=by kernel_rfl
theorem Ph:(144:TypeId)<prog.types.size:=of_decide_eq_true (by kernel_rfl)
theorem Pi:(match prog.underlying 144 with|some (.array _ _)|some (.struct _)=>true|_=>false)=true:=by kernel_rfl
theorem lawL:WideMaps.KeyLaw prog 144:=deep_law_laid GX (m:=2) xaa Ph (by kernel_rfl) Pi
theorem AV:Keyed prog 144:=Keyed.of_law lawL
theorem GY:prog.keyType 144=true:=by kernel_rfl
theorem GZ:prog.cellsOf 144=6:=by kernel_rfl
theorem NL:prog.cellsOf 3=1:=by kernel_rfl
theorem NM:prog.cellsOf 132=1:=by kernel_rfl
theorem Pj:∃m,prog.types.size=m+1:=Nat.exists_eq_succ_of_ne_zero (Nat.ne_of_gt (Nat.lt_of_le_of_lt (Nat.zero_le _) Ph))
theorem LF(w):(zeroValue 3).run prog w=.ok (hF 0) w:=by kernel_rfl
theorem xH(h:Wf v):keyOf prog 144 (pE v)=some (gJ v):=by
 obtain⟨m,aw⟩:=Pj;unfold keyOf;simp only[underlying144];rw[hI (by rw[GY];simp[Value.formed,underlying144,pE,GZ]),aw];unfold Program.keyLits;simp only[underlying144,pE,Value.cells];rw[hI ⟨by rw[GZ];rfl,by kernel_rfl⟩];simp[NL,NM,Program.keyLits,underlying3,underlying132,h.op,h.len,h.a,h.b,h.c,h.k,gJ]
theorem DL(aI:Wf u)(aM:Wf v)(h:gJ u=gJ v):pE u=pE v:=lawL.inj (xH aI) (by rw[h];exact xH aM)
theorem oH(aI:Wf u)(aM:Wf v):gJ u=gJ v↔fK u v=true:=by
 constructor
 ·intro h;have:=DL aI aM h;unfold pE at this;simp only[Value.agg.injEq,Array.mk.injEq,List.cons.injEq,Value.int.injEq,true_and,and_true]at this;obtain⟨af,a0,aj,e4,bW,J⟩:=this;unfold pD at J;unfold fK;rw[af,a0,aj,e4,bW];simp only[beq_self_eq_true,Bool.true_and];rw[af]at J;by_cases c:v.op=1
  ·rw[hI c,hI c]at J;simp[Int.ofNat_inj.1 J]
  simp[c]
 intro h;unfold fK at h;simp only[Bool.and_eq_true,beq_iff_eq,Bool.or_eq_true,bne_iff_ne]at h;obtain⟨⟨af,a0,aj,e4,bW⟩,J⟩:=h
 have aO:pD u=pD v:=by
  unfold pD;rw[af];by_cases c:v.op=1
  ·rw[hI c,hI c];rcases J with J|J
   ·exact absurd (af.trans c) J
   exact J
  rw[hG c,hG c]
 unfold gJ;rw[af,a0,aj,e4,bW,aO]
def kr(us:List Vl):Nat->DataW Unit
 |0=>.map []
 |i+1=>if has (kr us i) (gJ (us.getD i hK))=true then kr us i else (kr us i).put (gJ (us.getD i hK)) (.lit (.int .i64 (i:Nat)))
theorem G4(v):WideAt.IsKeyLit (gJ v):=by unfold gJ;trivial
theorem qM(us):∀i,IsMap (kr us i)
 |0=>isMap_empty
 |i+1=>by
  rw[kr]
  split
  ·exact qM us i
  ·exact(qM us i).put _ _
theorem vu{i}(e:gJ v≠gJ (us.getD i hK)):has (kr us (i+1)) (gJ v)=has (kr us i) (gJ v)/\∀z,(kr us (i+1)).atKey (gJ v) z=(kr us i).atKey (gJ v) z:=by
 rw[kr];split
 ·exact⟨rfl,λ_=>rfl⟩
 exact⟨has_put_other e _,λz=>atKey_put_other e _ z⟩
theorem oI(us v):∀i,has (kr us i) (gJ v)=true↔∃j,j<i/\gJ (us.getD j hK)=gJ v
 |0=>by simp[kr,has]
 |i+1=>by
  have al:=oI us v i
  by_cases e:gJ v=gJ (us.getD i hK)
  ·have r:∃j,j<i+1/\gJ (us.getD j hK)=gJ v:=⟨i,yae,e.symm⟩
   simp only[r,iff_true]
   rw[kr]
   split
   ·rename_i h;rw[e];exact h
   ·rw[e];exact has_put_same (qM us i) (G4 _) _
  ·rw[(vu e).1,al]
   constructor
   ·rintro⟨j,hj,h⟩
    exact⟨j,by omega,h⟩
   ·rintro⟨j,hj,h⟩
    by_cases c:j=i
    ·subst c;exact absurd h.symm e
    ·exact⟨j,by omega,h⟩
theorem B0(us v j)(hj:gJ (us.getD j hK)=gJ v)(a9:∀q,q<j->gJ (us.getD q hK)≠gJ v)(z):∀i,j<i->(kr us i).atKey (gJ v) z=.lit (.int .i64 (j:Nat))
 |0,h=>by omega
 |i+1,h=>by
  by_cases c:j=i
  ·subst c
   have hn:has (kr us j) (gJ (us.getD j hK))=false:=by
    cases ao:has (kr us j) (gJ (us.getD j hK))
    ·rfl
    ·obtain⟨q,B,U⟩:=(oI us _ j).1 ao
     exact absurd (U.trans hj) (a9 q B)
   rw[kr,hn,hG xac,<-hj]
   exact atKey_put_same (qM us j) (G4 _) _ _
  ·have al:=B0 us v j hj a9 z i xaa
   by_cases e:gJ v=gJ (us.getD i hK)
   ·rw[kr,hI ((oI us _ i).2 ⟨j,by omega,hj.trans e⟩)]
    exact al
   ·rw[(vu e).2]
    exact al
theorem DM(aI:∀j,j<us.length->Wf (us.getD j hK))(aM:Wf v):
  (has (kr us us.length) (gJ v)=false/\us.findIdx (fK · v)=us.length)\/
  (has (kr us us.length) (gJ v)=true/\us.findIdx (fK · v)<us.length/\∀z,(kr us us.length).atKey (gJ v) z=.lit (.int .i64 (us.findIdx (fK · v):Nat))):=by
 have f:∀{q:Nat} (h:q<us.length),us[q]=us.getD q hK:=λ{q} h=>by
  rw[yah,yal h];rfl
 rcases Nat.lt_or_ge (us.findIdx (fK · v)) us.length with c|c
 ·right
  have B:fK (us.getD (us.findIdx (fK · v)) hK) v=true:=by
   have:=List.findIdx_getElem (w:=c);rw[f c]at this;exact this
  have U:∀q,q<us.findIdx (fK · v)->gJ (us.getD q hK)≠gJ v:=λq ao e=>by
   have:=List.not_of_lt_findIdx ao
   rw[f xaa]at this
   exact absurd ((oH (aI q xaa) aM).1 e) (by simpa using this)
  have h3:=(oH (aI _ c) aM).2 B;exact⟨(oI us v _).2 ⟨_,c,h3⟩,c,λz=>B0 us v _ h3 U z _ c⟩
 left;have e:us.findIdx (fK · v)=us.length:=Nat.le_antisymm (List.findIdx_le_length) c;refine⟨?_,e⟩;cases ao:has (kr us us.length) (gJ v)
 ·rfl
 obtain⟨q,B,U⟩:=(oI us v _).1 ao;have:=List.not_of_lt_findIdx (p:=(fK · v)) (xs:=us) (i:=q) xaa;rw[f B]at this;exact absurd ((oH (aI q B) aM).1 U) (by simpa using this)
theorem DN:kr (us++[v]) (us.length+1)=if has (kr us us.length) (gJ v)=true then kr us us.length else (kr us us.length).put (gJ v) (.lit (.int .i64 (us.length:Nat))):=by
 have e:∀i,i<=us.length->kr (us++[v]) i=kr us i:=by
  intro i;induction i with
  |zero=>intro _;rfl
  |succ i al=>
   intro h;rw[kr,kr,al xaa,iU _ _ xaa]
 rw[kr,e _ yad,iM]
end
section
open Go.RowKit Flt
attribute[local go_sem] eF eE eD
variable{outs:List Int}{k:Nat}
theorem kQ(tq outs):(jO tq outs).length=outs.length:=by simp[jO]
theorem zt{tq}(O:k<outs.length):((jO tq outs).take k++outs.drop k).set k (tq.getD (outs.getD k 0).toNat 0)=(jO tq outs).take (k+1)++outs.drop (k+1):=by
 have e:=uz (jO tq outs) outs k (by rw[kQ];exact O) (by rw[kQ])
 have:(jO tq outs).getD k 0=tq.getD (outs.getD k 0).toNat 0:=by
  unfold jO;rw[yah,List.getElem?_map,yal O,yah (l:=outs),yal O];rfl
 rw[this]at e;exact e
theorem Kr{bc:List Int}(O:k<outs.length)(bS:bc.length=outs.length):(bc.take k++outs.drop k).getD k 0=outs.getD k 0:=by
 rw[yah,yar yaf,yah,List.getElem?_drop];congr 2;simp;omega
theorem oJ(F)(s:List Int)(O:k<s.length):ii F (s.take (k+1))=(ii F (s.take k)).set (s.getD k 0).toNat true:=by
 unfold ii;rw[yat O,List.foldl_append,yah,yal O];rfl
theorem zu{vs b}(hb:(ndI vs outs k).getD (vs.length-1-k) false=b):ndI vs outs (k+1)=if b=true then ii (ndI vs outs k) (eY (vs.getD (vs.length-1-k) hK))else ndI vs outs k:=by
 rw[ndI,hb]
end
section
open Go.RowKit Flt
attribute[local go_sem] eF eE eD
attribute[local go_sem ↓] Go.wp_at_zero Go.wp_at_succ
variable{us vs:List Vl}{tq:List Int}{i n r:Nat}{S:Nat->Prop}
theorem IR.isAt{w g xs}(h:IR w g xs)(ah:xs.length=n):IS w g (g+1) (some ⟨g,0,none⟩) n xs:=
 ⟨ah,.inr ⟨g,0,rfl,yad,yae,h.lt,λk O=>by rw[Nat.zero_add];exact h.cell k xaa⟩⟩
theorem Chg.refl(S w):Chg S w w:=(Kept.refl 0 0 w).chg
theorem NO(ah:us.length=i):(us++vs.drop i).getD i hK=vs.getD i hK:=by
 rw[yah,yar xaa,yah,List.getElem?_drop];congr 2;omega
theorem B4{v}(ah:us.length=i)(hi:i<vs.length):(us++vs.drop i).set i v=us++[v]++vs.drop (i+1):=by
 subst ah;rw[uE hi,Bw];simp
theorem RB.keepC{W W' p a9 N aD}(t:RB W p a9 N aD)(k:Chg S W W')(G:¬S p):RB W' p a9 N aD:=by
 have e:∀o,_:=λo=>k.cell (p:=⟨p,o,none⟩) t.sz G;have f:∀o,_:=λo=>k.frozen (p:=⟨p,o,none⟩) t.sz G;exact⟨yaj t.sz k.size,hR e t.q0,hR e t.q1,hR e t.q2,hR f t.f0,hR f t.f1,hR f t.f2⟩
theorem NP{P}{F:Nat}{s args}{l f:World->Prop}{Vaa:World->Prop}(h:∀W,i<n->l W->Vaa W->Calls P F args W λe J=>e=.returned (hF s)/\Chg S W J/\f J)(aB:i<n)(av:s=(r:Nat)):∀W,l W->Vaa W->Calls P F args W λe J=>e=.returned (hF (r:Nat))/\Chg S W J/\f J:=by
 subst av;exact λW B U=>h W aB B U
theorem NQ{a r}(ah:tq.length=i)(hi:i<n):((tq++List.replicate (n-i) 0).set i a).set i r=(tq++[r])++List.replicate (n-(i+1)) 0:=by
 subst ah;have e:n-tq.length=(n-(tq.length+1))+1:=xaa;rw[e,List.replicate_succ,List.set_set,Bw];simp
theorem Pk(ah:tq.length=i)(hi:i<n)(av:r<=i)(h:r<i->tq.getD r 0=(r:Int)):((tq++List.replicate (n-i) 0).set i (i:Nat)).getD r 0=(r:Int):=by
 rw[sc _ _ _ _ yaf];by_cases c:i=r
 ·rw[hI c,c]
 rw[hG c,<-h xaa,yah,yas xaa,<-yah]
end
section
open Go.RowKit Flt
theorem DO{ins vs i}(h:okV ins vs i=true)(hi:i<=2000)(ah:ins.length<=20)(b8:∀j,j<i->lenB (vs.getD j hK).len=true):
  (0<=(vs.getD i hK).op/\(vs.getD i hK).op<=13)/\(0<=(vs.getD i hK).len/\(vs.getD i hK).len<=2000)/\(0<=(vs.getD i hK).a/\(vs.getD i hK).a<=2000)/\(0<=(vs.getD i hK).b/\(vs.getD i hK).b<=2000)/\(0<=(vs.getD i hK).c/\(vs.getD i hK).c<=2000):=by
 have b7:=se h;have cq:=of_decide_eq_true (qp h);have cn:=i8 h;have a2:1<=cnt (vs.getD i hK).op->0<=(vs.getD i hK).a/\(vs.getD i hK).a<i:=λc=>cn _ (iP c);have aT:2<=cnt (vs.getD i hK).op->0<=(vs.getD i hK).b/\(vs.getD i hK).b<i:=λc=>cn _ (kz c);have al:3<=cnt (vs.getD i hK).op->0<=(vs.getD i hK).c/\(vs.getD i hK).c<i:=λc=>cn _ (lq c);unfold okV at h;generalize aM:vs.getD i hK=v at*;rw[Bool.and_eq_true,Bool.and_eq_true]at h;obtain⟨⟨_,ag⟩,l⟩:=h
 have f:cnt v.op<1->v.op≠0->v.a=0:=λc c0=>by
  unfold gC at ag
  by_cases e:v.a=0
  ·exact e
  ·simp[c,c0,e]at ag
 have g:cnt v.op<2->v.b=0:=λc=>by
  unfold gC at ag
  by_cases e:v.b=0
  ·exact e
  ·simp[c,e]at ag
 have c7:cnt v.op<3->iY v.op=false->v.c=0:=λc b0=>by
  unfold gC at ag
  by_cases e:v.c=0
  ·exact e
  ·simp[c,b0,e]at ag
 have m:v.op=0->0<=v.a/\v.a<ins.length:=λc=>by
  rw[hI c,Bool.and_eq_true]at l
  exact of_decide_eq_true l.1
 have cQ:iY v.op=true->0<=v.c/\v.c<=1000:=λc=>by
  have aF:=of_decide_eq_true c
  rw[hG xaa,Bool.and_eq_true]at l
  have ae:=l.2
  unfold eR at ae
  have c1:cnt v.op=1:=by rcases aF with e|e<;>rw[e]<;>decide
  have F:=a2 xaa
  have aD:=of_decide_eq_true (b8 v.a.toNat xaa)
  have bg:((eY v).map λo=>(vs.getD o.toNat hK).len).getD 0 0=(vs.getD v.a.toNat hK).len:=by
   unfold eY
   rw[c1]
   rfl
  rcases aF with e|e
  ·rw[hG xaa,hG xaa,hI e,Bool.and_eq_true,bg]at ae
   have:=of_decide_eq_true ae.2
   omega
  ·rw[hG xaa,hG xaa,hG xaa,hI e,Bool.and_eq_true]at ae
   have:=of_decide_eq_true ae.2
   omega
 refine⟨b7,by omega,?_,?_,?_⟩
 ·by_cases c:1<=cnt v.op
  ·have:=a2 c;omega
  by_cases c0:v.op=0
  ·have:=m c0;omega
  have:=f xaa c0;omega
 ·by_cases c:2<=cnt v.op
  ·have:=aT c;omega
  have:=g xaa;omega
 by_cases c:3<=cnt v.op
 ·have:=al c;omega
 cases aF:iY v.op
 ·have:=c7 xaa aF;omega
 have:=cQ aF;omega
end
section
open Go.RowKit Flt Go.Maps
attribute[local go_sem] eF eE eD
variable{x i:Nat}{A R:List Vl}
theorem DP{x}(h:0<=x/\x<=2000):(Lit.int .i64 x).wf=true:=by
 have af:IntKind.i64.min=-9223372036854775808:=xab;have a0:IntKind.i64.max=9223372036854775807:=xab;show(decide (IntKind.i64.min<=x)&&decide (x<=IntKind.i64.max))=true;exact xja
theorem NR(h:x<18446744073709551616):fb x<18446744073709551616:=by
 unfold fb;split
 ·decide
 exact h
theorem wfU(h:x<18446744073709551616):(Lit.int .u64 (x:Nat)).wf=true:=by
 have af:IntKind.u64.min=0:=xab;have a0:IntKind.u64.max=18446744073709551615:=xab;show(decide (IntKind.u64.min<=(x:Int))&&decide ((x:Int)<=IntKind.u64.max))=true;exact xja
theorem NS{ins vs}(h:okV ins vs i=true)(hi:i<=2000)(ah:ins.length<=20)(b8:∀j,j<i->lenB (vs.getD j hK).len=true)(O:(vs.getD i hK).k<18446744073709551616):Wf (vs.getD i hK):=by
 obtain⟨ai,B,U,h3,a6⟩:=DO h hi ah b8;refine⟨DP xaa,DP B,DP U,DP h3,DP a6,wfU ?_⟩;unfold pD;split
 ·exact NR O
 decide
theorem Ks{nv o}(ah:A.length=i)(ax:o<i):(A++[nv]++R).getD o hK=A.getD o hK:=by
 rw[List.append_assoc,yah,yas xaa,<-yah]
theorem Kt{nv}(ah:A.length=i):(A++[nv]++R).getD i hK=nv:=by
 subst ah;rw[List.append_assoc,yah,yar yad,Nat.sub_self];rfl
theorem DQ(p vs i):(fA p vs (i+1)).1++vs.drop (i+1)=(fA p vs i).1++[rnm (fA p vs i).2 (vs.getD i hK)]++vs.drop (i+1):=rfl
end
section
open Go.RowKit Flt
attribute[local go_sem] eF eE eD
variable{F:List Bool}{W' bj:World}{vs:List Vl}{T i ab base gk cap:Nat}{S:List Vl×List Int}
structure DI(W w4:World)(T n2 base gk cap:Nat)(S:List Vl×List Int):Prop where
 tq:IR W T S.2
 tl:S.2.length=n2
 own:W.ownsRow base 40 6 (.slice (some ⟨gk,0,none⟩) S.1.length cap) S.1.length (fW S.1)
 ch:Chg (λb=>b=T\/base<=b) w4 W
 bz:base<=W.heap.size
theorem oK(F vs):∀i,(f9 F vs i).2.length=vs.length/\(f9 F vs i).1.length<=i
 |0=>⟨by simp[f9],yad⟩
 |i+1=>by
  obtain⟨B,U⟩:=oK F vs i
  rw[f9]
  split
  ·exact⟨by simp[B],by simp;omega⟩
  ·exact⟨B,by omega⟩
theorem DI.stay{W}(f:DI W bj T ab base gk cap S)(k:Kept 0 0 W W'):DI W' bj T ab base gk cap S:=
 ⟨f.tq.keep k yaa,f.tl,eW f.own k,Chg.trans f.ch k.chg,yan f.bz k.size⟩
theorem DI.next{W bN be g9 cap9 x nv o}(f:DI W bj T ab base gk cap S)(k:Kept 0 0 W W')(bT:Kept 0 0 (W'.setCell ⟨T,i,none⟩ (hF x)) bN)(bh:T<base)
  (aU:be.ownsRow base 40 6 (hE g9 (S.1.length+1) cap9) (S.1.length+1) (fW S.1++nv.cells)) (aQ:(bN.alloc o).grownBy be (some gk)) (ai:base<=gk):DI be bj T ab base g9 cap9 (S.1++[nv],S.2.set i x):=by
 have g:=eU (lo:=T) (hi:=T+1) W' ⟨T,i,none⟩ (hF x) yac;have bE:=ez 0 0 bN o;have aO:=(((f.tq.keep k yaa).set i x).keep bT yaa).keep bE yaa;have aC:Chg (λb=>b=gk) (bN.alloc o) be:=⟨aQ.os,aQ.tape,aQ.output,aQ.size,λq ao hn=>aQ.block q ao (λc=>hn (hJ c))⟩
 refine⟨aO.keepC aC xaa,by simp[f.tl],?_,?_,?_⟩
 ·rw[yak,List.length_singleton,kD,mV];exact aU
 ·refine Chg.trans f.ch (Chg.trans k.chg (Chg.trans (g.chg1 (.inl rfl)) (Chg.trans bT.chg (Chg.trans bE.chg (aC.mono λb _ c=>.inr xaa)))))
 have B:=f.bz;have U:=k.size;have h3:=g.size;have a6:=bT.size;have bK:=bE.size;have bm:=aC.size;omega
theorem tP(w:World)(a9 N aD):RB (w.alloc (.cells #[a9,N,aD] 26)) w.heap.size a9 N aD:=by
 exact xkb
theorem B5(h:F.getD i false=true):f9 F vs (i+1)=((f9 F vs i).1++[rnm ((f9 F vs i).2.set i (f9 F vs i).1.length) (vs.getD i hK)],(f9 F vs i).2.set i (f9 F vs i).1.length):=by
 rw[f9,hI h]
theorem tQ(h:F.getD i false=false):f9 F vs (i+1)=f9 F vs i:=by
 rw[f9,hG (by rw[h];simp)]
end
section
open Go.RowKit Flt Go.Maps
attribute[local go_sem] eF eE eD
variable{w J:World}
theorem AW(w v):Calls prog 121 #[v.agg] w λe J=>e=.returned (pE v)/\Kept 0 0 w J:=by
 have aL:V (∀w,Calls prog 150 #[.float .f64 v.k] w λe J=>e=.returned (.int .u64 (fb v.k:Nat))/\J=w):=Ez v.k;unfold pE pD;have aJ:∀(o j f:Obj),Kept 0 0 w (((w.alloc o).alloc j).alloc f):=λo j f=>((ez 0 0 w o).trans (ez 0 0 _ j)).trans (ez 0 0 _ f);have bX:V _:=aJ;clear aJ;by_cases h:v.op=1
 ·rw[hI h];have t:(v.op==1)=true:=by simp[h]
  clear h;go_enter func121,ntmps121;go_wp2_with ((go_at_call 150;refine yai (aL.o _) ?_;rintro e ag ⟨rfl,rfl⟩));exact yay (v:=.agg #[hF v.op,hF v.len,hF v.a,hF v.b,hF v.c,.int .u64 (fb v.k:Nat)]) (by simp[results,results121,go_sem]) rfl ⟨rfl,bX.o _ _ _⟩
 rw[hG h];have t:(v.op==1)=false:=yam h;clear h;go_enter func121,ntmps121;go_wp2;exact yay (v:=.agg #[hF v.op,hF v.len,hF v.a,hF v.b,hF v.c,.int .u64 0]) (by simp[results,results121,go_sem]) rfl ⟨rfl,bX.o _ _ _⟩
theorem DR{b}(h:w.grownBy J (some b)):Chg (λi=>i=b) w J:=
 ⟨h.os,h.tape,h.output,h.size,λk O hn=>h.block k O (λc=>hn (hJ c))⟩
theorem xI{k R b n}{D:DataW Unit}(h:w.ownsMap prog k R b n D)(e:J.heap[b]? =w.heap[b]?):J.ownsMap prog k R b n D:=by
 obtain⟨es,bd,B,U⟩:=h;exact⟨es,bd,hR e B,U⟩
structure CI(W:World)(FB B i:Nat)(us:List Vl):Prop where
 lt:FB<W.heap.size
 box:W.cell? ⟨FB,0,none⟩=some (.map (some B))
 own:W.ownsMap prog 144 (plainElem (H:=Unit) prog 3) B i (kr us i)
theorem CI.keepC{W W' S m I i us}(h:CI W m I i us)(k:Chg S W W')(B:¬S m)(U:¬S I):CI W' m I i us:=
 ⟨yaj h.lt k.size,by rw[k.cell (p:=⟨m,0,none⟩) h.lt B];exact h.box,xI h.own (k.block I h.own.lt U)⟩
theorem Pm{i}(h:i<=2000):(Lit.int .i64 (i:Nat)).wf=true:=DP xaa
theorem PU(W g n c i m I A R nv)(ak:VA W g n (A++[nv]++R))(ah:A.length=i)(hi:i<n)(hn:n<=2000)(bn:CI W m I i A)(ca:m≠I)(aI:∀j,j<A.length->Wf (A.getD j hK))(aM:Wf nv):
  Calls prog 120 #[hE g n c,hF (i:Nat),hD m] W λe J=>e=.returned (hF (A.findIdx (fK · nv):Nat))/\Chg (λb=>b=I) W J/\CI J m I (i+1) (A++[nv]):=by
 have bm:=ak.at_ i hi;rw[Kt ah]at bm;have a9:=DM aI aM;rw[ah]at a9;have ae:=DN (us:=A) (v:=nv);rw[ah]at ae;have f:=xH aM;have bU:V _:=bn;have au:V _:=ae;have c9:V (∀w,Calls prog 121 #[nv.agg] w λe J=>e=.returned (pE nv)/\Kept 0 0 w J):=λw=>AW w nv;unfold pE at c9 f;have o:=Pm (i:=i) xaa;clear ak bn ae aM aI;obtain⟨bd,aR,aV,bY,ce,cl⟩:=bm;generalize ao:pD nv=q at c9 f;clear ao;generalize A.findIdx (fK · nv)=b2 at a9⊢;generalize gJ nv=p at f a9 au;have K:V _:=f;clear f ah;go_enter func120,ntmps120;go_wp2_with fail;clear bd aR aV bY ce cl;refine yai (c9.o W) ?_;rintro e ag ⟨rfl,an⟩;have bE:=ez 0 0 ag (.cells #[hF nv.op,hF nv.len,hF nv.a,hF nv.b,hF nv.c,.int .u64 q] 144);have l:V _:=CI.keepC (S:=λ_=>False) bU.o (an.trans bE).chg id id;have bX:V _:=an.trans bE;have bI:=l.o.box;rcases a9 with⟨B,U⟩|⟨B,U,h3⟩
 ·rw[B,hG xac]at au;have HO:V _:=l.o.own;have b6:b2=i:=U;subst b6
  go_wp2_with (first
   |(at_lookup;refine wpList_lookup_own_ok_int _ rfl _ _ 141 rfl 144 3 .i64 AV underlying141 underlying3 (LF _) I b2 _ rfl HO.o _ _ rfl K.o ?_;intro c bm h)
   |(at_mapUpdate;refine wpList_mapUpdate_own _ rfl _ _ _ 141 rfl 144 3 AV underlying141 (plainElem (H:=Unit) prog 3) I b2 _ rfl HO.o (by unfold maxLen;omega) _ _ _ rfl rfl K.o _ [] (plainElem_int underlying3 o) ?_;intro bF y aW))
  go_ret;have aC:=DR aW;refine⟨rfl,Chg.trans bX.o.chg aC,⟨yaj l.o.lt aC.size,?_,?_⟩⟩
  ·rw[aC.cell (p:=⟨m,0,none⟩) l.o.lt ca];exact l.o.box
  rw[au.o];exact y
 rw[B,hI rfl]at au;have HO:V _:=l.o.own;have H3:V _:=h3 (.lit (.int .i64 0));clear h3;go_wp2_with ((at_lookup;refine wpList_lookup_own_ok_int _ rfl _ _ 141 rfl 144 3 .i64 AV underlying141 underlying3 (LF _) I i _ rfl HO.o _ _ rfl K.o ?_;intro c bm h;have cJ:V _:=bm;clear bm h));go_ret
 have am:c=(b2:Nat):=by
  have:=cJ.o.symm.trans H3.o;injection this with this;injection this
 refine⟨hU am,bX.o.chg,⟨l.o.lt,l.o.box,?_⟩⟩;rw[au.o];exact World.ownsMap.mono HO.o (Nat.le_succ i)
end
section
open Go.RowKit Flt
attribute[local go_sem] eF eE eD
theorem lT{P w a m}(f b c):(store a (.func f b c) m).run P w=stored P w a (.func f b c) m:=run_store P w a _ m rfl
attribute[local go_sem] lT
theorem Ku(w g off m cap n)(xs:List Int)(ap:xs.length=m)(aw:m<=1000)(ak:∀k,k<m->w.cell? ⟨g,off+k,none⟩=some (hF (xs.getD k 0))):
  Calls prog 48 #[hF n,.slice (some ⟨g,off,none⟩) m cap] w λe J=>e=.returned (.bool (xs.all (fN · n)))/\w=J:=by
 have bg:V _:=ak;have bu:V (xs.length=m):=ap;clear ak ap;go_enter func48,ntmps48;go_wp2_with fail;go_loop [9] (λi=>∃k:Nat,k<=m/\i=hF k/\V ((xs.take k).all (fN · n)=true)) (λi=>m-(intOf i).toNat)
 case atStart=>exact⟨0,Nat.zero_le _,rfl,rfl⟩
 case round=>
  obtain⟨k,O,rfl,a2⟩:=hrel;by_cases aB:k<m
  ·have c:=bg.o k aB;cases t:fN (xs.getD k 0) n
   ·have R:V (xs.all (fN · n)=false):=by
     show _=_;rw[List.all_eq_false];exact⟨xs.getD k 0,jw (hR bu.o aB),by show ¬fN _ _=true;rw[t];decide⟩
    have bU:V _:=it (xs.getD k 0) n w;rw[t]at bU;generalize xs.getD k 0=x at c bU;clear t;go_wp2_with fail;refine yai bU.o ?_;rintro e ag ⟨rfl,X⟩;have R3:V (w=ag):=X.symm;clear X;go_wp2;go_ret;exact⟨hU R.o,R3.o⟩
   have R:V ((xs.take (k+1)).all (fN · n)=true):=by
    show _=_;rw[yat (hR bu.o aB),List.all_append,a2.o];rw[yah,yal (hR bu.o aB)]at t;simpa using t
   have bU:V _:=it (xs.getD k 0) n w;rw[t]at bU;generalize xs.getD k 0=x at c bU;clear t;go_wp2_with fail;refine yai bU.o ?_;rintro e ag ⟨rfl,rfl⟩;exact xds
  obtain rfl:k=m:=xaa
  have R:V (xs.all (fN · n)=true):=by
   exact xjp
  clear a2;go_wp2;go_ret;exact⟨hU R.o,rfl⟩
theorem Kv(w a cap n):Calls prog 48 #[hF n,.slice a 0 cap] w λe J=>e=.returned (.bool true)/\w=J:=by
 go_enter func48,ntmps48;exact xiu
theorem Kw(w lo hi a m cap n xs)(f:IS w lo hi a m xs)(aw:m<=1000):Calls prog 48 #[hF n,.slice a m cap] w λe J=>e=.returned (.bool (xs.all (fN · n)))/\w=J:=by
 rcases f.at_ with z|⟨g,off,rfl,_,_,_,ak⟩
 ·subst z;have:xs=[]:=List.length_eq_zero_iff.1 f.len;subst this;exact Kv w a cap n
 exact Ku w g off m cap n xs f.len aw ak
structure AP(W:World)(A:Nat):Prop where
 lt:A<W.heap.size
 p0:W.cell? ⟨A,0,none⟩=some (.func (.func 74) #[] #[])
 p1:W.cell? ⟨A,1,none⟩=some (.func (.func 75) #[] #[])
 p2:W.cell? ⟨A,2,none⟩=some (.func (.func 76) #[] #[])
 p3:W.cell? ⟨A,3,none⟩=some (.func (.func 77) #[] #[])
 p4:W.cell? ⟨A,4,none⟩=some (.func (.func 78) #[] #[])
theorem AP.keepC{W W' S A}(t:AP W A)(k:Chg S W W')(G:¬S A):AP W' A:=by
 have e:∀o,W'.cell? ⟨A,o,none⟩=W.cell? ⟨A,o,none⟩:=λo=>k.cell (p:=⟨A,o,none⟩) t.lt G;exact⟨yaj t.lt k.size,hR e t.p0,hR e t.p1,hR e t.p2,hR e t.p3,hR e t.p4⟩
abbrev LH:Value:=.agg #[.func (.func 74) #[] #[],.func (.func 75) #[] #[],.func (.func 76) #[] #[],.func (.func 77) #[] #[],.func (.func 78) #[] #[]]
abbrev G5:Obj:=.cells #[.func (.func 74) #[] #[],.func (.func 75) #[] #[],.func (.func 76) #[] #[],.func (.func 77) #[] #[],.func (.func 78) #[] #[]] 77
theorem G6(w:World):AP (w.alloc G5) w.heap.size:=by
 exact xgx
theorem DU(w):Calls prog 49 #[] w λe J=>e=.returned LH/\Kept 0 0 w J:=by
 go_enter func49,ntmps49;go_wp2;refine yay (v:=LH) (by simp[results,results49,go_sem]) rfl ⟨rfl,?_⟩;exact ez _ _ _ _
abbrev LI(w:World)(g:Nat)(x y z:Value):World:=((w.setCell ⟨g,0,none⟩ x).setCell ⟨g,1,none⟩ y).setCell ⟨g,2,none⟩ z
end
section
open Go.RowKit Flt
def vw(w w':World)(n1 n3:Nat)(ins outs:List Int)(M:List Vl×Int)(e:Ending):Prop:=
 ∃b1 d1 b3 d3 a2 cap,e=.returned (.tuple #[eX b1 n1 d1 a2 M.1.length cap b3 n3 d3,.int .i64 M.2])/\w'.ownsRow w.heap.size 3 1 (.slice b1 n1 d1) n1 (ins.map (Value.int .i64))/\w'.ownsRow w.heap.size 40 6 (.slice a2 M.1.length cap) M.1.length (fW M.1)/\w'.ownsRow w.heap.size 3 1 (.slice b3 n3 d3) n3 (outs.map (Value.int .i64))/\Apart (.slice b1 n1 d1) (.slice b3 n3 d3)
end
section
open Go.RowKit Flt
attribute[local go_sem] eF eE eD
theorem bR.qcc(h:Zp:=by
 have HR:V _:=bB;have HK:V _:=am.trans an;have bZ:V _:=f.i.keep (am.trans an) yaa;have ao:V _:=f.v.keep (am.trans an) yaa;have l:V _:=f.o.keep (am.trans an) yaa;clear f bB am an;obtain⟨_,a7,aK,aP⟩:=aH.o;go_enter func45,ntmps45;go_upto_region 2 with fail;generalize (w.alloc _).alloc _=ag at aH HR HK bZ ao l a7 aK aP⊢;have bw:V _:=PN ao.o;go_wp2_with (first|(at_builtin;refine mJ _ rfl _ _ _ rfl ag.heap.size 40 _ _ 6 _ underlying24 hi bn bQ br rfl xab rfl _ _ _ _ rfl ?c0 bw.o ?c2 ?c3 ?c4 ?c5 ?_))
 case c0=>rw[qm,ao.o.len]
 case c2=>exact Mm _
 case c3=>unfold maxLen;omega
 case c4=>omega
 case c5=>exact yad
 intro v' a8 H m;obtain⟨Z,d2,rfl⟩:=jd H;have aJ:=mF m (λk O=>by cases O) hN yad;have af:V _:=H;have bX:V _:=aJ;clear H m bw a7 aK aP aJ;obtain⟨_,a7,aK,aP⟩:=G0.keep aH.o bX.o;have i:=IS.keep bZ.o bX.o yaa;have eu:V _:=i;have p:V _:=IS.keep l.o bX.o yaa;have ch:V _:=G0.keep aH.o bX.o;have bR:V _:=RB.keep HR.o bX.o;have cd:V (w.heap.size+1<ag.heap.size/\w.heap.size<=ag.heap.size/\ag.heap.size<=a8.heap.size):=⟨HR.o.sz,HK.o.size,bX.o.size⟩
 clear i aH HR bZ ao l;go_wp2_with fail
 go_region_held3 (λJ=>J.cell? ⟨w.heap.size,0,none⟩=some (.slice N Y c1)/\J.cell? ⟨w.heap.size,2,none⟩=some (.slice ad aa c3)) (first|go_keep|(simp only[E4 _ _ _ _ _ _ _ ca];exact⟨bo,aZ⟩))
  (first
   |(go_at_call 68;refine yai (oh _ _ _ _ _ _ _ cu (IS.keep p.o j yaa)) ?_;rintro e bF ⟨a3,d3,rfl,cc,bW⟩;have z:=Kept.trans j bW;obtain⟨_,bo,az,aZ⟩:=G0.keep ch.o z;obtain⟨_,bf,aO,aX,bI,bL,bM⟩:=RB.keep bR.o z;have ca:w.heap.size≠w.heap.size+1:=by omega)
   |(go_at_call 68;refine yai (oh (a8.drewN 1) _ _ _ _ _ _ bJ (IS.keep eu.o (eL 0 0 _ 1) yaa)) ?_;rintro e bj ⟨a1,d1,rfl,bV,b7⟩;have j:=Kept.trans (eL 0 0 _ 1) b7;obtain⟨_,aW,aq,aN⟩:=G0.keep ch.o j))
 go_wp2_with fail;obtain⟨bd,aR,aV⟩:=fg _ _ _ _ _ bf aO aX (.slice a1 Y d1) (.slice Z ab d2) (.slice a3 aa d3);have K:=fh bF (w.heap.size+1) (.slice a1 Y d1) (.slice Z ab d2) (.slice a3 aa d3);have bE:(a8.drewN 1).heap.size=a8.heap.size:=rfl;have o:=b7.size;have F:=cd.o
 have au:∀{b e size n:Nat}{v:Value}{xs:List _}{W:World},W.ownsRow b e _ v n _->ag.heap.size<=b->Kept 0 0 W _->(((bF.setCell _ _).setCell _ _).setCell _ _).ownsRow w.heap.size e size v n xs:=λh hb k=>
  jc (fY (eW h k) K (λg aQ=>hO ((eI h aQ).1))) xaa
 refine yay (v:=eX a1 Y d1 Z ab d2 a3 aa d3) (by simp[results,results45,go_sem,bd,aR,aV]) rfl ⟨a1,d1,Z,d2,a3,d3,rfl,au bV xaa bW,au af.o yad z,au cc xaa hN,⟨mX af.o bV xaa,mX af.o cc xaa,mX bV cc yad⟩,Kept.new ((HK.o.trans bX.o).trans z) K xaa⟩):Zp:=h
open bR in
theorem qN(w N aD ad Y c1 ab c2 aa c3 ins vs outs)(f:GS w N Y aD ab ad aa ins vs outs)(bJ:Y<=1000000)(b5:ab<=1000000)(cu:aa<=1000000):
  Calls prog 45 #[eX N Y c1 aD ab c2 ad aa c3] w λe J=>∃a1 d1 Z d2 a3 d3,e=.returned (eX a1 Y d1 Z ab d2 a3 aa d3)/\J.ownsRow w.heap.size 3 1 (.slice a1 Y d1) Y (ins.map (Value.int .i64))/\J.ownsRow w.heap.size 40 6 (.slice Z ab d2) ab (fW vs)/\J.ownsRow w.heap.size 3 1 (.slice a3 aa d3) aa (outs.map (Value.int .i64))/\
   (Apart (.slice Z ab d2) (.slice a1 Y d1)/\Apart (.slice Z ab d2) (.slice a3 aa d3)/\Apart (.slice a1 Y d1) (.slice a3 aa d3))/\Kept 0 0 w J:=by
 obtain⟨bC,hi,bn,bQ,br⟩:=info_parts rK;have am:=ez 0 0 w (eZ N Y c1 aD ab c2 ad aa c3);have an:=ez 0 0 (w.alloc (eZ N Y c1 aD ab c2 ad aa c3)) fE;have aH:V _:=(fO w _ _ _).keep an;exact qcb
theorem t.qaf(h:Zp:=by
 exact qeq):Zp:=h
theorem t.qer(h:Zp:=by
 rw[gq.o]at bk;have cR:vs.length<=1000000:=hO b0.o
 by_cases gE:s<x
 all_goals
  (first|(have bv:(s:Int)<x:=by omega)|(have bv:¬((s:Int)<x):=by omega))
  go_upto_region 5 with fail
  clear bi a5 p2 bH f1 f2 aL
  generalize ((ag.setCell _ _).setCell _ _).setCell _ _=dp at HL ds⊢
  rw[<-b0.o]at HL⊢
  have aW:=HL.o.g.c0
  have aq:=HL.o.g.c1
  have aN:=HL.o.g.c2
  go_cut [] (λbp=>∃aA cap',V (LK w bp N Y d1 ad aa d3 ins outs (vs++[eK 1 ca 0 0 0]) aG.heap.size (some aA) (some ⟨aA,0,none⟩) cap'))
  case first=>
   go_region_with (first
    |(go_at_call 37;refine yai (LK.call HL.o ((eG _).trans am) _ cR) ?_;rintro e ag ⟨aA,cap',rfl,⟨_,bo⟩,⟨_,az⟩,⟨_,aZ⟩,ai,aD⟩;have bl:=ai 0;have bG:=ai 1;have bP:=ai 2;have co:V _:=aD.o.1;clear ai aD)
    |(go_at_call 57;refine yai (oW _ _) ?_;rintro e aG ⟨rfl,am⟩;have bi:=(LK.keep HL.o ((eG _).trans am)).g.c0;have a5:=(LK.keep HL.o ((eG _).trans am)).g.c1;have p2:=(LK.keep HL.o ((eG _).trans am)).g.c2))
   all_goals (go_wp2_with fail;go_meet;exact⟨_,_,co⟩)
  case rest=>
   obtain⟨aA,cap',aD⟩:=hcut
   have ci:(vs++[eK 1 ca 0 0 0]).length=vs.length+1:=by simp
   generalize aI:vs++[eK 1 _ 0 0 0]=p at aD bk ci
   clear aW aq aN aI HL
   have aW:=aD.o.g.c0
   have aq:=aD.o.g.c1
   have aN:=aD.o.g.c2
   obtain⟨_,bf,aO,aX,bI,bL,bM⟩:=aD.o.b
   have aF:V _:=λW=>je W N (some ⟨aA,0,none⟩) ad Y d1 _ cap' aa d3 (show p.length<=1000000 by have:=b0.o;have:=ci;omega)
   rw[show(p.length:Int)-1=(vs.length:Nat) by omega]at aF
   clear ci
   go_wp2_with fail
   go_region_with (first
    |(go_at_call 40;refine yai (aF.o _) ?_;rintro e a8 ⟨rfl,aJ⟩;clear bf aO aX bI bL bM;have a7:=(aD.o.keep ((eG _).trans aJ)).g.c0;have aK:=(aD.o.keep ((eG _).trans aJ)).g.c1;have aP:=(aD.o.keep ((eG _).trans aJ)).g.c2;obtain⟨_,bf,aO,aX,bI,bL,bM⟩:=(aD.o.keep ((eG _).trans aJ)).b))
   all_goals
    have ej:V _:=aD.o.a4
    have R1:V _:=aD.o.fin ((eG _).trans aJ)
    obtain⟨bd,aR,aV⟩:=fg _ _ _ _ _ bf aO aX (.slice N Y d1) (hE aA p.length cap') (.slice ad aa d3)
    go_wp2_with fail
    refine yay (v:=.tuple #[eX N Y d1 (some ⟨aA,0,none⟩) p.length cap' ad aa d3,hF vs.length]) (by simp[results,results156,go_sem,bd,aR,aV]) rfl ⟨?_,R1.o.2⟩
    rw[bk.o]
    exact⟨_,_,_,_,_,_,rfl,R1.o.1.1,R1.o.1.2.1,R1.o.1.2.2,ej.o⟩):Zp:=h
open t in
theorem xJ(w P af aC Y c1 ab c2 aa c3 s x ins vs outs)(f:GS w P Y (some ⟨aC,0,none⟩) ab af aa ins vs outs)(c7:VA w aC ab vs)(bJ:Y<=1000000)(b5:ab<=2000)(cu:aa<=1000000)(b6:(List.range ab).all (okV ins vs)=true)(cG:fd vs<=50000)(ae:s<ab)(ap:x<ab)(F:(jA vs x (s-x)).getD s false=false):
  Calls prog 156 #[eX P Y c1 (some ⟨aC,0,none⟩) ab c2 af aa c3,hF s,hF x] w λe J=>vw w J Y aa ins outs (grM vs s x) e/\Kept 0 0 w J:=by
 have bk:V (grM vs s x=(vs++[eK 1 (vs.getD x hK).len 0 0 0],(vs.length:Int))):=by
  show _=_;unfold grM;rw[hG (by rw[F];simp)]
 exact qed
