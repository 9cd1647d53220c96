import Derived.Test.YtcjhlkdleojbjaaGreatP20
namespace Go.Proofs.Z
variable{Zp:Prop}
open Tryz
set_option maxRecDepth 1000000
set_option maxHeartbeats 0
section
open Go.RowKit Flt
attribute[local go_sem] eF eE
def niN(bs:List Int)(i:Nat):Nat->Nat
 |0=>i
 |k+1=>ni bs (niN bs i k)
def dfI(bs:List Int)(i:Nat):Nat:=if nv bs i%16=10 then ni bs (ni bs i)else if 14<=nv bs i%16 then niN bs (ni bs i) 8 else ni bs i
def dfB(bs:List Int)(i:Nat):Nat->Int
 |0=>0
 |k+1=>IntKind.u64.wrap (IntKind.u64.wrap (dfB bs i k*256)+IntKind.u64.wrap (nv bs (niN bs i k):Int))
def dfV(bs:List Int)(i:Nat):Nat:=
 if nv bs i%16<6 then floatOfInt .f64 ((nv bs i:Int)/16)
 else if nv bs i%16<9 then Op.negFloat .f64 (floatOfInt .f64 ((nv bs i:Int)/16))
 else if nv bs i%16=9 then cop .quo (floatOfInt .f64 ((nv bs i:Int)/16)) 4620693217682128896
 else if nv bs i%16=10 then cop .quo (floatOfInt .f64 ((nv bs i:Int)/16)) (floatOfInt .f64 (wrap64 ((nv bs (ni bs i):Int)+1)))
 else if nv bs i%16=11 then[0,9223372036854775808,9218868437227405312,18442240474082181120,9221120237041090560,1,9223372036854775809,4503599627370496,9218868437227405311,18442240474082181119,4607182418800017408,13830554455654793216,4591870180066957722,4846369599423283200,4841369599423283202,20240225330731].getD (nv bs i/16) 0
 else if nv bs i%16=12 then cop .mul (floatOfInt .f64 ((nv bs i:Int)/16)) 9094988921128908188
 else if nv bs i%16=13 then cop .mul (Op.negFloat .f64 (floatOfInt .f64 ((nv bs i:Int)/16))) 2024
 else if nv bs i%16=14 then ffV (bits .or .u64 (dfB bs (ni bs i) 8) (IntKind.u64.wrap (IntKind.u64.wrap (wrap64 ((nv bs i:Int)/16))*576460752303423488))).toNat
 else ffV (dfB bs (ni bs i) 8).toNat
theorem IJ(bs i):∀k,0<=dfB bs i k/\dfB bs i k<18446744073709551616
 |0=>⟨Int.le_refl _,by show(0:Int)<_;decide⟩
 |k+1=>⟨wrap_u64_nonneg _,rL _⟩
def DfO(P:Nat)(a:Option Addr)(n cap i:Nat)(bs:List Int)(w:World)(x:Nat)(e:Ending)(w':World):Prop:=∃z,e=.returned (.float .f64 z)/\fb z=fb x/\z<18446744073709551616/\RdF w' P a n cap i bs/\Kept P (P+1) w w'
theorem RdF.drw{w P a n cap i bs}(f:RdF w P a n cap i bs)(m):RdF (w.drewN m) P a n cap i bs:=f.keep (eJ 0 0 w m) yab
theorem OL(w P a n cap i bs)(h:RdF w P a n cap i bs):
  Calls prog 79 #[hy P] w (DfO P a n cap (dfI bs i) bs w (dfV bs i)):=by
 have an:=ib h.ys i;have bm:E _:=iX w P a n cap i bs h;have HD:E (dfI bs i=if nv bs i%16=10 then ni bs (ni bs i)else if 14<=nv bs i%16 then niN bs (ni bs i) 8 else ni bs i):=rfl;unfold DfO;have p:∃Z,fb (dfV bs i)=Z:=⟨_,rfl⟩
 obtain⟨Z,aO⟩:=p;rw[aO];unfold dfV at aO;have bH:E _:=aO.symm;clear aO;generalize dfI bs i=q at HD⊢;generalize nv bs i=x at bm HD bH an;have f1:=@jX prog;have f2:=@lM prog;have f3:=lF;clear h;go_enter func79,ntmps79;go_wp2_with fail;refine yaj bm.o ?_;rintro e aA ⟨rfl,F,ao,b3⟩;clear b3 bm;have bL:E (x%16≠10->x%16<14->q=ni bs i):=λc d=>by rw[HD.o,hC c,hC xaa]
 have g:E (x%16=10->q=ni bs (ni bs i)):=λc=>by rw[HD.o,hD c]
 have f:E (14<=x%16->q=niN bs (ni bs i) 8):=λc=>by rw[HD.o,hC xaa,hD c]
 clear HD;rcases J3 x with O|O|O|O|O|O|O|O|O
 ·have aP:=bH.o;rw[hD xaa]at aP;have bq:E _:=aP;clear bH aP;have aK:=bL.o xaa xaa;clear bL g f;subst aK;have u:(x:Int)%16<6:=xaa;clear O;go_wp2;go_ret;exact⟨_,rfl,bq.o.symm,qr _,F,ao⟩
 ·have aP:=bH.o;rw[hC xaa,hD xaa]at aP;have bq:E _:=aP;clear bH aP;have aK:=bL.o xaa xaa;clear bL g f;subst aK;have u:6<=(x:Int)%16:=xaa;have r:(x:Int)%16<9:=xaa;clear O;go_wp2;go_ret;exact⟨_,rfl,bq.o.symm,mW (qr _),F,ao⟩
 ·have aP:=bH.o;rw[hC xaa,hC xaa,hD xaa]at aP;have bq:E _:=aP;clear bH aP;have aK:=bL.o xaa xaa;clear bL g f;subst aK;have u:(x:Int)%16=9:=xaa;exact xdx
 ·have aP:=bH.o;rw[hC xaa,hC xaa,hC xaa,hD xaa]at aP;have bq:E _:=aP;clear bH aP;have aK:=g.o O;clear bL g f;subst aK;have u:(x:Int)%16=10:=xaa;clear O;go_wp2_with fail;refine(iX _ _ _ _ _ _ _ F).mono ?_;rintro e ag ⟨rfl,N,Y,b0⟩;clear b0;go_wp2;go_ret;exact⟨_,rfl,(gl _ _ _ _).trans bq.o.symm,gJ _ _ _ _,N.drw _,ao.trans (Y.trans (eJ _ _ _ _))⟩
 ·have aP:=bH.o;rw[hC xaa,hC xaa,hC xaa,hC xaa,hD xaa]at aP;have bq:E _:=aP;clear bH aP;have aK:=bL.o xaa xaa;clear bL g f;subst aK;have aj:x=11\/x=27\/x=43\/x=59\/x=75\/x=91\/x=107\/x=123\/x=139\/x=155\/x=171\/x=187\/x=203\/x=219\/x=235\/x=251:=xaa;clear O an;rcases aj with rfl|rfl|rfl|rfl|rfl|rfl|rfl|rfl|rfl|rfl|rfl|rfl|rfl|rfl|rfl|rfl
  all_goals
   go_wp2
   go_ret
   refine⟨_,rfl,?_,?_,(F.keep (ez 0 0 _ _) yab).drw _,(ao.trans (ez _ _ _ _)).trans (eJ _ _ _ _)⟩
   ·rw[bq.o];first|rfl|(rw[gl];rfl)|(rw[gl];decide)
   ·first|exact gJ _ _ _ _|exact mW xaa|omega
 ·have aP:=bH.o;rw[hC xaa,hC xaa,hC xaa,hC xaa,hC xaa,hD xaa]at aP;have bq:E _:=aP;clear bH aP;have aK:=bL.o xaa xaa;clear bL g f;subst aK;have u:(x:Int)%16=12:=xaa;exact xdx
 ·have aP:=bH.o;rw[hC xaa,hC xaa,hC xaa,hC xaa,hC xaa,hC xaa,hD xaa]at aP;have bq:E _:=aP;clear bH aP;have aK:=bL.o xaa xaa;clear bL g f;subst aK;have u:(x:Int)%16=13:=xaa;exact xdx
 ·have aP:=bH.o;rw[hC xaa,hC xaa,hC xaa,hC xaa,hC xaa,hC xaa,hC xaa,hD xaa]at aP;have bq:E _:=aP;clear bH aP;have aK:=f.o xaa;clear bL g f;have o:E _:=aK;clear aK;have HK:E ((x:Int)%16=14):=by show(x:Int)%16=14;omega
  have u:=HK.o;clear O;go_wp2_with fail;clear f1 f2 f3 u an;go_loopw [9,10] (λb t W=>∃j:Nat,j<=8/\t=hA (j:Nat)/\b=.int .u64 (dfB bs (ni bs i) j)/\RdF W P a n cap (niN bs (ni bs i) j) bs/\Kept P (P+1) w W) (λ_ t _=>8-(intOf t).toNat)
  case atStart=>exact⟨0,by omega,rfl,rfl,F,ao⟩
  case round=>
   obtain⟨j,hj,rfl,rfl,K,aT⟩:=hrel;by_cases aG:j<8
   ·exact xek
   have l:j=8:=xaa;have u:=HK.o;have av:E _:=IJ bs (ni bs i) j;have HR:E _:=K;rw[l]at HR;rw[l]at av⊢;clear K l hj;go_wp2_with fail;obtain⟨G,bg,cc⟩:=Nx (dfB bs (ni bs i) 8) (IntKind.u64.wrap (IntKind.u64.wrap (wrap64 ((x:Int)/16))*576460752303423488)) av.o.1 av.o.2 (wrap_u64_nonneg _) (rL _);have b9:E (fb (ffV G)=Z):=by show _=_;rw[bq.o,bg];rfl
   rw[bg];refine(vB G _ cc).mono ?_;rintro e ag ⟨y,rfl,bN,bE,m,rfl⟩;replace b9:E _:=bN.trans b9.o;clear bg cc bN u;exact xhl
 have aP:=bH.o;rw[hC xaa,hC xaa,hC xaa,hC xaa,hC xaa,hC xaa,hC xaa,hC xaa]at aP;have bq:E _:=aP;clear bH aP;have aK:=f.o xaa;clear bL g f;have o:E _:=aK;clear aK;have HK:E ((x:Int)%16=15):=by show(x:Int)%16=15;omega
 have u:=HK.o;clear O;go_wp2_with fail;clear f1 f2 f3 u an;go_loopw [9,10] (λb t W=>∃j:Nat,j<=8/\t=hA (j:Nat)/\b=.int .u64 (dfB bs (ni bs i) j)/\RdF W P a n cap (niN bs (ni bs i) j) bs/\Kept P (P+1) w W) (λ_ t _=>8-(intOf t).toNat)
 case atStart=>exact⟨0,by omega,rfl,rfl,F,ao⟩
 case round=>
  obtain⟨j,hj,rfl,rfl,K,aT⟩:=hrel;by_cases aG:j<8
  ·exact xek
  have l:j=8:=xaa;have u:=HK.o;have av:E _:=IJ bs (ni bs i) j;have HR:E _:=K;rw[l]at HR;rw[l]at av⊢;clear K l hj;go_wp2_with fail;obtain⟨G,bg⟩:=Int.eq_ofNat_of_zero_le av.o.1;have cc:G<18446744073709551616:=hJ av.o.2
  have b9:E (fb (ffV G)=Z):=by show _=_;rw[bq.o,bg];rfl
  rw[bg];clear bg;refine(vB G _ cc).mono ?_;rintro e ag ⟨y,rfl,bN,bE,m,rfl⟩;replace b9:E _:=bN.trans b9.o;clear bN u;exact xhl
end
section
open Go.RowKit Flt
attribute[local go_sem] eF eE eD
variable{B:World}{J l h i:Nat}{u1 u2 u3:Value}{ins outs bs:List Int}{vs:List Vl}
structure DG(w:World)(B:Nat)(u1 u2 u3:Value)(ins:List Int)(vs:List Vl)(outs:List Int):Prop where
 r1:w.ownsRow B 3 1 u1 ins.length (ins.map (Value.int .i64))
 r2:w.ownsRow B 62 6 u2 vs.length (fF vs)
 r3:w.ownsRow B 3 1 u3 outs.length (outs.map (Value.int .i64))
 a12:Apart u1 u2
 a13:Apart u1 u3
 a23:Apart u2 u3
 k:∀v∈vs,v.k<18446744073709551616
 sz:B<=w.heap.size
theorem DG.kept{w}(f:DG w J u1 u2 u3 ins vs outs)(k:Kept l h w B)(cj:h<=J):DG B J u1 u2 u3 ins vs outs:=
 ⟨f9 f.r1 k λ_ e=>.inr (yao cj (eH f.r1 e).1),f9 f.r2 k λ_ e=>.inr (yao cj (eH f.r2 e).1),f9 f.r3 k λ_ e=>.inr (yao cj (eH f.r3 e).1),f.a12,f.a13,f.a23,f.k,yao f.sz k.size⟩
theorem DG.keep{w}(f:DG w J u1 u2 u3 ins vs outs)(k:Kept 0 0 w B):DG B J u1 u2 u3 ins vs outs:=f.kept k yae
theorem RdF.keep0{w P a n cap}(f:RdF w P a n cap i bs)(k:Kept 0 0 w B):RdF B P a n cap i bs:=f.keep k yab
theorem e8{w}(k:Kept 0 0 w B):Kept l h w B:=⟨k.os,k.tape,k.output,k.size,λi hi _=>k.block i hi xaa⟩
theorem RB.kept{W I p bE R aS}(t:RB W p bE R aS)(k:Kept l h W I)(aM:p<l\/h<=p):RB I p bE R aS:=
 have e:∀o,I.cell? ⟨p,o,none⟩=W.cell? ⟨p,o,none⟩:=λo=>k.cell (p:=⟨p,o,none⟩) t.sz (by grind)
 have j:∀o,I.frozen? ⟨p,o,none⟩=W.frozen? ⟨p,o,none⟩:=λo=>k.frozen (p:=⟨p,o,none⟩) t.sz (by grind)
 ⟨yak t.sz k.size,hL e t.q0,hL e t.q1,hL e t.q2,hL j t.f0,hL j t.f1,hL j t.f2⟩
def nC(vs:List Vl)(n:Int)(fr:Nat):Nat->Nat->Int
 |0,_=>-1
 |m+1,k=>if (vs.getD ((fr+k)%vs.length) hF).len=n then (((fr+k)%vs.length:Nat):Int)else nC vs n fr m (k+1)
def jC(vs:List Vl)(n:Int)(fr:Nat):Int:=nC vs n fr vs.length 0
theorem jN{W n u}(h:W.ownsRow J 62 6 u n (fF vs))(af:vs.length=n){k}(O:k<n):∃g cap,u=hz g n cap/\J<=g/\g<W.heap.size/\At W g (k*6) (vs.getD k hF):=by
 obtain⟨g,cap,e,F,N,_,a6⟩:=mX h xaa af;exact⟨g,cap,e,F,N,a6.at_ k O⟩
theorem PY{w P a a1 U a3 n cap Z c1 n2 c2 ab c3}(N:w.ownsRow J 62 6 (.slice U n2 c2) n2 (fF vs))(af:vs.length=n2)(ad:n2<=100000)(K:RdF w P a n cap i bs)(hP:P<J)(q):
  Calls prog 80 #[eZ a1 Z c1 U n2 c2 a3 ab c3,hA q,hy P] w λe B=>e=.returned (hA (jC vs q (nv bs i)))/\RdF B P a n cap (ni bs i) bs/\Kept P (P+1) w B:=by
 have bq:=ez 0 0 w (e9 a1 Z c1 U n2 c2 a3 ab c3);have s:=ib K.ys i;have av:E _:=fB w (.slice a1 Z c1) (.slice U n2 c2) (.slice a3 ab c3);have bm:E _:=iX _ P a n cap i bs (K.keep0 bq);have HK:E _:=bq;have HO:E _:=eO N bq;have HM:E (jC vs q (nv bs i)=nC vs q (nv bs i) (n2-0) 0):=by show nC vs q (nv bs i) vs.length 0=_;rw[af];rfl
 have cA:E (P≠w.heap.size):=by have:=K.lt;show P≠_;omega
 generalize jC vs q (nv bs i)=r at HM⊢;generalize nv bs i=x at bm HM s;have HL:E (vs.length=n2):=af;clear bq N K af;go_enter func80,ntmps80;go_wp2_with fail;refine yaj bm.o ?_;rintro e ag ⟨rfl,(bI:E _),ak,bX⟩;clear bX;have bB:E (Kept P (P+1) w ag):=(e8 HK.o).trans ak;have ae:E _:=f9 HO.o ak λ_ e=>.inr (hJ ((eH HO.o e).1));have HC:E (∀o,ag.cell? ⟨w.heap.size,o,none⟩=(w.alloc (e9 a1 Z c1 U n2 c2 a3 ab c3)).cell? ⟨w.heap.size,o,none⟩):=λo=>ak.cell (p:=⟨w.heap.size,o,none⟩) xac (by show ¬(P<=w.heap.size/\w.heap.size<P+1);have:=cA.o;omega);have aC:ag.cell? ⟨w.heap.size,1,none⟩=some (.slice U n2 c2):=by rw[HC.o];obtain⟨_,_,aQ,_⟩:=av.o;exact aQ
 clear ak HK HO bm HC av;go_wp2_with fail;go_loopw [8] (λt W=>∃k:Nat,k<=n2/\t=hA k/\E (r=nC vs q x (n2-k) k)/\W=ag) (λt _=>n2-(intOf t).toNat)
 case atStart=>grind
 case round=>
  obtain⟨k,O,rfl,aD,rfl⟩:=hrel;by_cases aG:k<n2
  ·have am:(x+k)%n2<n2:=Nat.mod_lt _ xaa;obtain⟨g,ce,aK,ai,b8,a7⟩:=jN ae.o HL.o am;cases aK;have aP:=a7.c1;have p:((x:Int)+k)%(n2:Int)=(((x+k)%n2:Nat):Int):=by rw[Int.natCast_emod,Int.natCast_add]
   have HR:E (r=if (vs.getD ((x+k)%n2) hF).len=q then (((x+k)%n2:Nat):Int)else nC vs q x (n2-(k+1)) (k+1)):=by
    have e:n2-k=(n2-(k+1))+1:=xaa;have:=aD.o;rw[e,nC,HL.o]at this;exact this
   clear aD a7;generalize (vs.getD ((x+k)%n2) hF).len=z at aP HR;generalize (x+k)%n2=j at am aP HR p;by_cases bv:z=q
   ·subst bv;have m:E (r=(j:Int)):=HR.o.trans (hD rfl);clear HR HM;go_wp2;go_ret;exact⟨by rw[m.o,<-p];rfl,bI.o,bB.o⟩
   have m:E _:=HR.o.trans (hC bv);clear HR HM;go_wp2;go_roundw;exact⟨k+1,by omega,by go_num,m.o,trivial⟩;simp[intOf];omega
  have bP:k=n2:=xaa;have m:E (r=-1):=by have:=aD.o;rw[bP,Nat.sub_self,nC]at this;exact this
  clear aD HM bP;go_wp2;go_ret;exact⟨hO m.o,bI.o,bB.o⟩
theorem CN{w P a n cap}(h:RdF w P a n cap i bs):
  Calls prog 45 #[hy P] w λe B=>e=.returned (hA ((bs.length:Int)-i))/\Kept 0 0 w B:=by
 have al:=h.c0;have F:=h.c1;have ad:=h.small;have hi:=h.hi;have af:E (n=bs.length):=h.ys.len.symm;clear h;go_enter func45,ntmps45;go_wp2;go_quiet (fail)
 go_wp2;go_ret;exact⟨by rw[<-af.o];rfl,eJ _ _ _ _⟩
variable{w W I:World}{P n cap i nE cE:Nat}{a aE:Option Addr}{bs:List Int}{env:List (List UInt8×Int)}
structure En(w:World)(P:Nat)(aE:Option Addr)(nE:Nat)(env:List (List UInt8×Int)):Prop where
 len:env.length=nE
 le:nE<=100
 at_:∀k,k<nE->∃g,aE=some ⟨g,0,none⟩/\P<g/\g<w.heap.size/\w.cell? ⟨g,k*2,none⟩=some (eN (env.getD k ([],0)).1)/\w.cell? ⟨g,k*2+1,none⟩=some (.int .i64 (env.getD k ([],0)).2)
theorem En.keep(f:En w P aE nE env)(k:Kept P (P+1) w W):En W P aE nE env:=
 ⟨f.len,f.le,λj hj=>by
  obtain⟨g,e,F,N,c0,c1⟩:=f.at_ j hj
  exact⟨g,e,F,yak N k.size,(k.cell N (by grind)).trans c0,(k.cell N (by grind)).trans c1⟩⟩
theorem En.keep0(f:En w P aE nE env)(k:Kept 0 0 w W):En W P aE nE env:=f.keep (e8 k)
def ofG(env:List (List UInt8×Int))(q:Int)(c:Nat):Nat->Nat->List UInt8
 |0,_=>[]
 |m+1,k=>if (env.getD ((k+c)%env.length) ([],0)).2=q then (env.getD ((k+c)%env.length) ([],0)).1 else ofG env q c m (k+1)
def ofM(env:List (List UInt8×Int))(q:Int)(c:Nat):List UInt8:=ofG env q c env.length 0
theorem OM(f:En w P aE nE env)(K:RdF w P a n cap i bs)(q):
  Calls prog 106 #[.slice aE nE cE,hA q,hy P] w λe B=>e=.returned (eN (ofM env q (nv bs i)))/\RdF B P a n cap (ni bs i) bs/\Kept P (P+1) w B:=by
 have s:=ib K.ys i;have bm:E _:=iX w P a n _ i _ K;have HF:E _:=f;have HM:E (ofM env q (nv bs i)=ofG env q (nv bs i) (nE-0) 0):=by show ofG _ _ _ _ _=_;rw[f.len];rfl
 have ad:=f.le;generalize ofM _ q _=r at HM⊢;generalize nv _ i=x at bm HM s;clear f K;go_enter func106,ntmps106;go_wp2_with fail;refine yaj bm.o ?_;rintro e ag ⟨rfl,(bI:E _),(bB:E _),bX⟩;clear bX bm;have bU:E _:=HF.o.keep bB.o;clear HF;go_wp2_with fail;go_loopw [8] (λt W=>∃k:Nat,k<=nE/\t=hA k/\E (r=ofG env q x (nE-k) k)/\E (Kept 0 0 ag W)) (λt _=>nE-(intOf t).toNat)
 case atStart=>exact⟨0,yae,rfl,HM.o,hI⟩
 case round=>
  obtain⟨k,O,rfl,aD,aI⟩:=hrel;by_cases aG:k<nE
  ·have am:(k+x)%nE<nE:=Nat.mod_lt _ xaa;obtain⟨g,aK,ai,b8,ba,aP⟩:=(bU.o.keep0 aI.o).at_ _ am;have p:(k+(x:Int))%nE=((k+x)%nE:Nat):=by rw[Int.natCast_emod,Int.natCast_add]
   have HR:E (r=if (env.getD ((k+x)%nE) ([],0)).2=q then (env.getD ((k+x)%nE) ([],0)).1 else ofG env q x (nE-(k+1)) (k+1)):=by
    have e:nE-k=(nE-(k+1))+1:=xaa;have:=aD.o;rw[e,ofG,bU.o.len]at this;exact this
   clear aD;subst aK;generalize env.getD _ _=z at ba aP HR;generalize (k+x)%nE=j at am ba aP HR p;obtain⟨aQ,a8⟩:=z;simp only at ba aP HR;have y:E (Kept 0 0 _ (wr.alloc (.cells #[eN aQ,hA a8] 130))):=aI.o.trans (ez 0 0 _ _);by_cases bv:a8=q
   ·subst bv;have m:E _:=HR.o.trans (hD rfl);clear HR HM;go_wp2;go_ret;exact⟨hO m.o,bI.o.keep0 y.o,bB.o.trans (e8 y.o)⟩
   have m:E _:=HR.o.trans (hC bv);clear HR HM;go_wp2;go_roundw;exact⟨k+1,by omega,by go_num,m.o,y⟩;simp[intOf];omega
  have bP:k=nE:=xaa;have m:E (r=[]):=by simp_all[ofG]
  clear aD HM bP;go_wp2;go_ret;exact⟨hO m.o,bI.o.keep0 aI.o,bB.o.trans (e8 aI.o)⟩
structure Xd where
 w:World
 P:Nat
 n:Nat
 cap:Nat
 nE:Nat
 cE:Nat
 a:Option Addr
 aE:Option Addr
structure Sd(X:Xd)(env:List (List UInt8×Int))(bs:List Int)(i:Nat)(W:World):Prop where
 rd:RdF W X.P X.a X.n X.cap i bs
 en:En W X.P X.aE X.nE env
 kp:Kept X.P (X.P+1) X.w W
variable{X:Xd}{W I:World}{env:List (List UInt8×Int)}{bs:List Int}{i j:Nat}
theorem Sd.go(h:Sd X env bs i W)(r:RdF I X.P X.a X.n X.cap j bs)(k:Kept X.P (X.P+1) W I):Sd X env bs j I:=⟨r,h.en.keep k,h.kp.trans k⟩
theorem Sd.keep0(h:Sd X env bs i W)(k:Kept 0 0 W I):Sd X env bs i I:=h.go (h.rd.keep0 k) (e8 k)
def Tx(X:Xd)(env:List (List UInt8×Int))(bs:List Int)(j:Nat)(v:Value)(e:Ending)(w':World):Prop:=e=.returned v/\Sd X env bs j w'
theorem nxS(h:Sd X env bs i W):Calls prog 15 #[hy X.P] W (Tx X env bs (ni bs i) (hA (nv bs i:Int))):=
 (iX W X.P X.a X.n X.cap i bs h.rd).mono λ_ _ ⟨e,r,k,_⟩=>⟨e,h.go r k⟩
theorem lfS(h:Sd X env bs i W):Calls prog 45 #[hy X.P] W (Tx X env bs i (hA ((bs.length:Int)-i))):=
 (CN h.rd).mono λ_ _ ⟨e,k⟩=>⟨e,h.keep0 k⟩
theorem olS(q)(h:Sd X env bs i W):Calls prog 106 #[.slice X.aE X.nE X.cE,hA q,hy X.P] W (Tx X env bs (ni bs i) (eN (ofM env q (nv bs i)))):=
 (OM h.en h.rd q).mono λ_ _ ⟨e,r,k⟩=>⟨e,h.go r k⟩
theorem nbS(h:Sd X env bs i W):Calls prog 127 #[hy X.P] W (Tx X env bs (ni bs i) (eN (l3n (nv bs i)))):=
 (A9 W X.P X.a X.n X.cap i bs h.rd).mono λ_ _ ⟨e,r,k,_⟩=>⟨e,h.go r k⟩
theorem dcS{q:Nat}(ap:q<=1000)(h:Sd X env bs i W):Calls prog 77 #[hA q] W (Tx X env bs i (eN (gO q))):=
 (yN q q yad xaa W).mono λ_ _ ⟨e,a9⟩=>⟨e,a9 ▸ h⟩
theorem sz2{x y:ByteArray}{G:Prop}(h:x.size+y.size<=1000000)(k:¬9223372036854775807<x.size+y.size->x.size<=1000000->G):G:=k xaa xaa
theorem ON(au:∀x∈env,x.1.length<=5)(q c):(ofM env q c).length<=5:=by
 have h:∀m k,(ofG env q c m k).length<=5:=by
  intro m;induction m with
  |zero=>exact λ_=>by simp[ofG]
  |succ m G=>
   intro k;rw[ofG];grind
 exact h _ _
theorem OO{x}(h:x<256):(l3n x).length<=300:=by
 grind[jS,l3n]
def Dr(env:List (List UInt8×Int))(bs:List Int)(i f:Nat)(xs:Xd->Array Value)(m:Nat)(s:ByteArray)(j:Nat):Prop:=s.size<=m/\∀X W,E (Sd X env bs i W)->Calls prog f (xs X) W (Tx X env bs j (.string s))
theorem gj{f m:Nat}{xs s}(bv:s.size<=m)(am:m<=1000000)(h:s.size<=1000000->∀X W,E (Sd X env bs i W)->Calls prog f (xs X) W (Tx X env bs j (.string s))):Dr env bs i f xs m s j:=⟨bv,h (yao bv am)⟩
theorem olD(au:∀x∈env,x.1.length<=5)(q i):∃s j,Dr env bs i 106 (λX=>#[.slice X.aE X.nE X.cE,hA q,hy X.P]) 5 s j:=⟨_,_,by rw[fX];exact ON au q _,λ_ _ h=>olS q h.o⟩
theorem nbD(hb:∀i,nv bs i<256)(i):∃s j,Dr env bs i 127 (λX=>#[hy X.P]) 300 s j:=⟨_,_,by rw[fX];exact OO (hb i),λ_ _ h=>nbS h.o⟩
theorem dcD{q}(al:0<=q)(h3:q<=3):∃s,∀i,Dr env bs i 77 (λ_=>#[hA q]) 5 s i:=by
 obtain⟨q,rfl⟩:=Int.eq_ofNat_of_zero_le al;exact⟨_,λ_=>⟨by rw[fX];have:=jS q;omega,λ_ _ h=>dcS xaa h.o⟩⟩
theorem Ak(s:ByteArray):s.toList=[]/\s.toList.isEmpty=true\/¬s.toList=[]/\s.toList.isEmpty=false:=by
 grind
theorem Na(au:∀x∈env,x.1.length<=5)(hb:∀i,nv bs i<256)(q)(ap:1<=q/\q<=3)(i):∃s j,Dr env bs i 105 (λX=>#[.slice X.aE X.nE X.cE,hA q,hy X.P]) 1000 s j:=by
 obtain⟨aZ,bm,A⟩:=olD (bs:=bs) au q i;obtain⟨ax,aO,J⟩:=nbD (env:=env) hb (ni bs bm);obtain⟨aU,D⟩:=dcD (env:=env) (bs:=bs) (by omega:0<=q) ap.2;have al:=A.1;have F:=J.1;have N:=(D 0).1;rcases Ak aZ with⟨bn,bb⟩|⟨bn,bb⟩<;>rcases (by omega:q=1\/¬q=1) with rfl|co<;>rcases (by omega:(nv bs bm:Int)%4=0\/0<(nv bs bm:Int)%4) with aX|aX
 ·exact xay
 ·exact xay
 ·exact xau
 ·exact xau
 ·exact xay
 ·exact xce
 ·exact xau
 exact xce
end
section
open Go.RowKit Flt Ieee
abbrev vd(vs:List Vl)(i:Nat):Vl:=vs.getD i hF
end
section
open Go.RowKit Flt
attribute[local go_sem] eF eE eD
variable{w I:World}{J P n cap i Q Z c1 c2 ab c3:Nat}{a a1 U a3:Option Addr}{bs ins outs:List Int}{u1 u2 u3:Value}{vs:List Vl}
abbrev iz:Value:=.slice none 0 0
structure GrS(W:World)(B P:Nat)(a:Option Addr)(n cap i:Nat)(bs:List Int)(Q:Nat)(u1 u2 u3:Value)(ins:List Int)(vs:List Vl)(outs:List Int):Prop where
 rd:RdF W P a n cap i bs
 dg:DG W B u1 u2 u3 ins vs outs
 bx:RB W Q u1 u2 u3
 rs:RB W (Q+1) iz iz iz
 pb:P<B
 bq:B<=Q
 far:∀b,u1.ownBlock=some b\/u2.ownBlock=some b\/u3.ownBlock=some b->b<Q
theorem GrS.step{W Y}(f:GrS W J P a n cap i bs Q u1 u2 u3 ins vs outs)(K:RdF I P a n cap Y bs)(k:Kept P (P+1) W I):GrS I J P a n cap Y bs Q u1 u2 u3 ins vs outs:=
 ⟨K,f.dg.kept k (hJ f.pb),f.bx.kept k (hK f.pb f.bq),f.rs.kept k (hK f.pb f.bq),f.pb,f.bq,f.far⟩
theorem GrS.keep{W}(f:GrS W J P a n cap i bs Q u1 u2 u3 ins vs outs)(k:Kept 0 0 W I):GrS I J P a n cap i bs Q u1 u2 u3 ins vs outs:=f.step (f.rd.keep0 k) (e8 k)
theorem GrS.next{W}(f:GrS W J P a n cap i bs Q u1 u2 u3 ins vs outs):
  Calls prog 15 #[hy P] W λe I=>e=.returned (hA (nv bs i:Int))/\GrS I J P a n cap (ni bs i) bs Q u1 u2 u3 ins vs outs/\Kept P (P+1) W I:=
 (iX W P a n cap i bs f.rd).mono λ_ _ q=>⟨q.1,f.step q.2.1 q.2.2.1,q.2.2.1⟩
theorem GrS.start(f:DG w J u1 u2 u3 ins vs outs)(K:RdF w P a n cap i bs)(hP:P<J):
  GrS ((w.alloc (.cells #[u1,u2,u3] 26)).alloc fJ) J P a n cap i bs w.heap.size u1 u2 u3 ins vs outs/\Kept 0 0 w ((w.alloc (.cells #[u1,u2,u3] 26)).alloc fJ):=by
 have aw:=ez 0 0 w (.cells #[u1,u2,u3] 26);have ak:=ez 0 0 (w.alloc (.cells #[u1,u2,u3] 26)) fJ;have hb:=sr (S:=λ_=>False) w _ #[u1,u2,u3] 26 (ak.chg) (λc=>c);have bC:=iN (w.alloc (.cells #[u1,u2,u3] 26));rw[show(w.alloc (.cells #[u1,u2,u3] 26)).heap.size=w.heap.size+1 by simp]at bC;refine⟨⟨K.keep0 (aw.trans ak),f.keep (aw.trans ak),⟨hb.2.2,hb.1 0,hb.1 1,hb.1 2,hb.2.1 0,hb.2.1 1,hb.2.1 2⟩,bC,hP,f.sz,?_⟩,aw.trans ak⟩;rintro b (c|c|c)
 ·exact(eH f.r1 c).2
 ·exact(eH f.r2 c).2
 exact(eH f.r3 c).2
def fbz(k:Nat):Nat:=if k=0 then 0 else fb k
theorem BG(k):fbz k=fb k:=by
 unfold fbz;split
 ·rename_i h;rw[h];exact fb_zero.symm
 rfl
def sv(v:Vl):Vl:=⟨v.op,v.len,v.a,v.b,v.c,fbz v.k⟩
def GwO(w:World)(B P:Nat)(a:Option Addr)(n cap i:Nat)(bs:List Int)(u1 u2 u3:Value)(ins:List Int)(vs:List Vl)(outs:List Int)(v0:Vl)(e:Ending)(w':World):Prop:=
 ∃v g' cap',e=.returned (.agg #[u1,.slice (some ⟨g',0,none⟩) (vs.length+1) cap',u3])/\sv v=v0/\DG w' B u1 (.slice (some ⟨g',0,none⟩) (vs.length+1) cap') u3 ins (vs++[v]) outs/\RdF w' P a n cap i bs/\Chg (λb=>b=P\/u2.ownBlock=some b) w w'/\(u2.ownBlock=some g'\/w.heap.size<=g')
theorem GrS.put{W az}(f:GrS W J P a n cap i bs w.heap.size (.slice a1 Z c1) (.slice U vs.length c2) (.slice a3 ab c3) ins vs outs)(X:Kept P (P+1) w W)(k:Kept 0 0 W az)(v)(aO:v.k<18446744073709551616)(ad:vs.length<=100000):
  Calls prog 44 #[eZ a1 Z c1 U vs.length c2 a3 ab c3,v.agg] az λe ag=>∃aq cap',e=.returned (eZ a1 Z c1 (some ⟨aq,0,none⟩) (vs.length+1) cap' a3 ab c3)/\RB ag (w.heap.size+1) iz iz iz/\GwO w J P a n cap i bs (.slice a1 Z c1) (.slice U vs.length c2) (.slice a3 ab c3) ins vs outs (sv v) (.returned (eZ a1 Z c1 (some ⟨aq,0,none⟩) (vs.length+1) cap' a3 ab c3)) (fw ag (w.heap.size+1) (.slice a1 Z c1) (hz aq (vs.length+1) cap') (.slice a3 ab c3)):=by
 have f1:=f.keep k;have p:=f.pb;have l:=f.bq;have bX:=f1.dg.sz;refine(rP az a1 U a3 Z c1 c2 ab c3 J vs v f1.dg.r2 bX xaa).mono ?_;rintro e ag ⟨aq,cap',rfl,a6,au⟩;have q:∀b,(Value.slice U vs.length c2).ownBlock=some b->b<w.heap.size/\J<=b:=λb hb=>⟨f.far b (.inr (.inl hb)),(eH f1.dg.r2 hb).1⟩
 have C:(Value.slice U vs.length c2).ownBlock=some aq\/az.heap.size<=aq:=by
  rcases au.row with c|⟨r,c,aD⟩
  ·grind
  grind
 have K:w.heap.size+1<az.heap.size:=f1.rs.sz;have B:aq≠w.heap.size+1:=by grind
 have ae:∀o,ag.cell? ⟨w.heap.size+1,o,none⟩=az.cell? ⟨w.heap.size+1,o,none⟩:=λo=>au.chg.cell (p:=⟨w.heap.size+1,o,none⟩) K (by grind);have a9:∀o,ag.frozen? ⟨w.heap.size+1,o,none⟩=az.frozen? ⟨w.heap.size+1,o,none⟩:=λo=>au.chg.frozen (p:=⟨w.heap.size+1,o,none⟩) K (by grind);have rs:=f1.rs;have S:=ft ag (w.heap.size+1) (.slice a1 Z c1) (hz aq (vs.length+1) cap') (.slice a3 ab c3);have g:∀{u:Value}{xs:List Value}{m e s:Nat},az.ownsRow J e s u m xs->Apart (.slice U vs.length c2) u->ag.ownsRow J e s u m xs:=λ{u xs m e s} o aY=>fi o au.chg (by rintro b hb (c|c);exact c;exact aY b c hb);have hput:∀{W:World}{u:Value}{xs:List Value}{m e s:Nat}{x y z:Value},W.ownsRow J e s u m xs->u.ownBlock≠some (w.heap.size+1)->(fw W (w.heap.size+1) x y z).ownsRow J e s u m xs:=λo G=>eI (eI (eI o G) G) G;have h:Apart (.slice U vs.length c2) (.slice a1 Z c1):=λb hb ah=>f.dg.a12 b ah hb;refine⟨aq,cap',rfl,⟨yak K au.chg.size,hL ae rs.q0,hL ae rs.q1,hL ae rs.q2,hL a9 rs.f0,hL a9 rs.f1,hL a9 rs.f2⟩,v,aq,cap',rfl,rfl,⟨?_,?_,?_,?_,f.dg.a13,?_,?_,?_⟩,?_,?_,?_⟩
 ·exact hput (g f1.dg.r1 h) (λc=>hJ (f.far _ (.inl c)))
 ·grind[Value.ownBlock]
 ·exact hput (g f1.dg.r3 f.dg.a23) (λc=>by have:=f.far _ (.inr (.inr c));omega)
 ·intro b hb ah;have:b=aq:=by simpa[Value.ownBlock] using ah.symm
  subst this;rcases C with c|c
  ·exact f.dg.a12 _ hb c
  have:=f.far _ (.inl hb);omega
 ·intro b hb ah;have:b=aq:=by simpa[Value.ownBlock] using hb.symm
  subst this;rcases C with c|c
  ·exact f.dg.a23 _ c ah
  have:=f.far _ (.inr (.inr ah));omega
 ·intro u aB;rcases List.mem_append.1 aB with c|c
  ·exact f.dg.k u c
  simp_all
 ·exact yao bX (yao au.chg.size S.size)
 ·have aD:=qZ f1.rd au.chg (by grind);exact aD.keep S (.inl xaa)
 ·have j:=yao X.size k.size;refine⟨S.os.trans (au.chg.os.trans (k.os.trans X.os)),S.tape.trans (au.chg.tape.trans (k.tape.trans X.tape)),S.output.trans (au.chg.output.trans (k.output.trans X.output)),yao j (yao au.chg.size S.size),λb hb ad=>?_⟩;refine(S.block b (hJ au.chg.size) xaa).trans ?_;rw[au.chg.block b xaa (by grind),k.block b (hJ X.size) xaa];exact X.block b hb (λc=>ad (.inl xaa))
 grind
theorem a.qab(h:Zp:=by
 obtain⟨g,ce,aK,ai,b8,a7⟩:=jN h.dg.r2 rfl X;cases aK;exact qdo):Zp:=h
theorem a.qdp(h:Zp:=by
 rcases G.o with⟨aj,rfl,rfl⟩|⟨aj,rfl,rfl⟩|⟨aj,rfl,rfl⟩
 all_goals
  clear G
  first|(have u:(nv bs i:Int)%16=9:=by omega)|(have u:(nv bs i:Int)%16=11:=by omega)|(have u:(nv bs i:Int)%16=13:=by omega)
  clear aj
  go_wp2_with fail
  obtain⟨_,aY,aC,aL,_,_,_⟩:=ao.o.bx
  go_region_with (first|(go_at_call 44;refine yaj (HF.o _ _ _ _ _ _ _ ao.o HK.o _ ((eG _).trans aR)) ?_;rintro e ag ⟨aq,cap',rfl,aA,av⟩;obtain⟨_,br,ay,a0,bZ,b5,b6⟩:=aA)|(go_at_call 46;refine yaj (ij _ _ _ _ _ _) ?_;rintro e aB ⟨rfl,aR⟩;obtain⟨_,aZ,ax,aU,_,_,_⟩:=(ao.o.keep ((eG _).trans aR)).bx))
  all_goals
   go_wp2_with fail
   obtain⟨bn,aX,bb⟩:=fp ag (w.heap.size+1) _ _ _ br ay a0 (.slice a1 Z c1) (hz aq (vs.length+1) cap') (.slice a3 ab c3)
   exact yaz (v:=eZ a1 Z c1 (some ⟨aq,0,none⟩) (vs.length+1) cap' a3 ab c3) (by simp[results,results48,go_sem,bn,aX,bb]) rfl av):Zp:=h
open a in
theorem uy(f:DG w J (.slice a1 Z c1) (.slice U vs.length c2) (.slice a3 ab c3) ins vs outs)(K:RdF w P a n cap i bs)(hP:P<J)(ad:vs.length<=100000)(al:0<vs.length){m}(am:(vd vs (nv bs (ni bs i)%vs.length)).len=m){o l}(O:(nv bs i%16=9/\o=6/\l=m)\/(nv bs i%16=11/\o=9/\l=1)\/(nv bs i%16=13/\o=13/\l=m)):
  Calls prog 48 #[eZ a1 Z c1 U vs.length c2 a3 ab c3,hy P] w (GwO w J P a n cap (ni bs (ni bs i)) bs (.slice a1 Z c1) (.slice U vs.length c2) (.slice a3 ab c3) ins vs outs ⟨o,l,((nv bs (ni bs i)%vs.length:Nat):Int),0,0,0⟩):=by
 exact qaa
end
section
open Go.RowKit Flt
theorem GrS.pick{W J P a n cap i bs Q a1 U a3 Z c1 c2 ab c3 ins vs outs}(f:GrS W J P a n cap i bs Q (.slice a1 Z c1) (.slice U vs.length c2) (.slice a3 ab c3) ins vs outs)(ad:vs.length<=100000)(q):
  Calls prog 80 #[eZ a1 Z c1 U vs.length c2 a3 ab c3,hA q,hy P] W λe I=>e=.returned (hA (jC vs q (nv bs i)))/\GrS I J P a n cap (ni bs i) bs Q (.slice a1 Z c1) (.slice U vs.length c2) (.slice a3 ab c3) ins vs outs/\Kept P (P+1) W I:=
 (PY f.dg.r2 rfl ad f.rd f.pb q).mono λ_ _ h=>⟨h.1,f.step h.2.1 h.2.2,h.2.2⟩
end
section
open Go.RowKit Flt
attribute[local go_sem] eF eE eD
variable{J P n cap i Z c1 c2 ab c3:Nat}{a a1 U a3:Option Addr}{bs ins outs:List Int}{vs:List Vl}
theorem b.qab(h:Zp:=by
 obtain⟨g,ce,aK,ai,b8,a7⟩:=jN h.dg.r2 rfl X;cases aK;exact qdf):Zp:=h
theorem b.qdg(h:Zp:=by
 exact xba):Zp:=h
theorem b.qex(h:Zp:=by
 have hd0:0<1+nv bs (ni bs (ni bs (ni bs i)))%4/\1+nv bs (ni bs (ni bs (ni bs i)))%4<=4:=xaa;generalize 1+nv bs (ni bs (ni bs (ni bs i)))%4=d at l hd0⊢;have ah:(nv bs (ni bs (ni bs (ni bs (ni bs i)))):Int)%(d:Int)=((nv bs (ni bs (ni bs (ni bs (ni bs i))))%d:Nat):Int):=xaa;have R:nv bs (ni bs (ni bs (ni bs (ni bs i))))%d<d:=Nat.mod_lt _ hd0.1;have cl:=ib K.ys (ni bs (ni bs (ni bs (ni bs i))));generalize nv bs (ni bs (ni bs (ni bs (ni bs i))))%d=c at ah R⊢;have HC:E ((nv bs (ni bs (ni bs (ni bs (ni bs i)))):Int).tmod (d:Int)=c):=(Int.tmod_eq_emod_of_nonneg xaa).trans ah;have cw:E _:=l;clear l ah;exact qaa):Zp:=h
open b in
theorem IK{w}(f:DG w J (.slice a1 Z c1) (.slice U vs.length c2) (.slice a3 ab c3) ins vs outs)(K:RdF w P a n cap i bs)(hP:P<J)(ad:vs.length<=100000)(al:0<vs.length){m}(am:(vd vs (nv bs (ni bs i)%vs.length)).len=m)(hb:0<=jC vs 1 (nv bs (ni bs (ni bs i))))(O:nv bs i%16=15):
  Calls prog 48 #[eZ a1 Z c1 U vs.length c2 a3 ab c3,hy P] w (GwO w J P a n cap (ni bs (ni bs (ni bs (ni bs (ni bs i))))) bs (.slice a1 Z c1) (.slice U vs.length c2) (.slice a3 ab c3) ins vs outs ⟨12,((1+nv bs (ni bs (ni bs (ni bs i)))%4:Nat):Int),jC vs 1 (nv bs (ni bs (ni bs i))),0,((nv bs (ni bs (ni bs (ni bs (ni bs i))))%(1+nv bs (ni bs (ni bs (ni bs i)))%4):Nat):Int),0⟩):=by
 exact qew
theorem P.qau(h:Zp:=by
 rcases Nat.eq_zero_or_pos n2 with bv|bv
 case' inl=>have a2:(n2:Int)<=0:=xaa
 case' inl=>clear bv
 case' inr=>have u:(nv bs i:Int)%16=0:=hJ G.o
 all_goals
  clear G
  rcases bL.o with⟨b3,aM⟩|⟨b3,b0,aM⟩
 case' inl.inl|inr.inl=>
  have b0:(Z:Int)<=0:=xaa;clear b3
 case' inl.inr|inr.inr=>
  have HO:E (¬(nv bs (ni bs i):Int)%2=1):=by show ¬_;omega
  clear b0;go_wp2_with fail;refine yaj ao.o.next ?_;rintro e bS ⟨rfl,h,ak⟩;replace HK:E _:=HK.o.trans ak;replace ao:E _:=h;clear h ak aY aC aL;have q:=HO.o
 all_goals
  rw[<-aM]at ao
  clear aM bL
  go_wp2_with fail
  refine yaj (OL _ _ _ _ _ _ _ ao.o.rd) ?_
  rintro e aW ⟨z,rfl,m,g,ce,bQ⟩
  have j:E (sv ⟨1,d,0,0,0,z⟩=⟨1,d,0,0,0,fb (dfV bs p)⟩):=by show _=_;rw[<-m,<-BG];rfl
  clear m
  replace HK:E _:=HK.o.trans bQ
  replace ao:E _:=ao.o.step ce bQ
  clear ce bQ
  go_wp2_with fail
  refine yaj ao.o.next ?_
  rintro e aF ⟨rfl,y,bU⟩
  replace HK:E _:=HK.o.trans bU
  replace ao:E _:=y
  clear y bU
  have l:=cw.o
  have b2:E _:=g
  clear g
  obtain⟨_,bD,aQ,a8,_,_,_⟩:=ao.o.bx
  go_wp2_with fail
  refine yaj (HF.o _ _ ⟨1,d,0,0,0,z⟩ ao.o HK.o _ hI b2.o) ?_
  rintro e ag ⟨aq,cap',rfl,aA,av⟩
  obtain⟨_,br,ay,a0,bZ,b5,b6⟩:=aA
  go_wp2_with fail
  obtain⟨bn,aX,bb⟩:=fp ag (w.heap.size+1) _ _ _ br ay a0 (.slice a1 Z c1) (hz aq (n2+1) cap') (.slice a3 ab c3)
  exact yaz (v:=eZ a1 Z c1 (some ⟨aq,0,none⟩) (n2+1) cap' a3 ab c3) (by simp[results,results48,go_sem,bn,aX,bb]) rfl (j.o ▸ av)):Zp:=h
open P in
theorem uz{w}(f:DG w J (.slice a1 Z c1) (.slice U vs.length c2) (.slice a3 ab c3) ins vs outs)(K:RdF w P a n cap i bs)(hP:P<J)(ad:vs.length<=100000){p}(aM:(Z=0/\p=ni bs i)\/(0<Z/\nv bs (ni bs i)%2≠1/\p=ni bs (ni bs i)))(O:nv bs i%16=0\/vs.length=0):
  Calls prog 48 #[eZ a1 Z c1 U vs.length c2 a3 ab c3,hy P] w (GwO w J P a n cap (ni bs (dfI bs p)) bs (.slice a1 Z c1) (.slice U vs.length c2) (.slice a3 ab c3) ins vs outs ⟨1,((1+nv bs (dfI bs p)%4:Nat):Int),0,0,0,fb (dfV bs p)⟩):=by
 have l:(1:Int)+(nv bs (dfI bs p):Int)%4=((1+nv bs (dfI bs p)%4:Nat):Int):=xaa;have aT:=ib K.ys (dfI bs p);generalize 1+nv bs (dfI bs p)%4=d at l⊢;have cw:E _:=l;have bL:E _:=aM;clear l aM;exact qat
end
section
open Go.RowKit Flt Ieee
theorem OP{us r q}(h:q<us.length):vd (us++r) q=vd us q:=by
 unfold vd;rw[yai,yat h,<-yai]
end
section
open Go.RowKit Flt
theorem nvb{bs}(h:∀x∈bs,0<=x/\x<256)(i):nv bs i<256:=by
 unfold nv;by_cases c:i<bs.length<;>simp_all<;>grind
theorem P0{us vs}(h:us.map sv=vs.map sv):Lk us vs:=by
 have e:sv=cv:=funext λv=>by unfold sv cv;rw[BG]
 unfold Lk;grind
