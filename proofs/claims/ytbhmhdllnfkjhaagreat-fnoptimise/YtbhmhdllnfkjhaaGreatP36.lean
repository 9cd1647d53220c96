import Derived.Test.YtbhmhdllnfkjhaaGreatP20
namespace Go.Proofs.Z
variable{Zp:Prop}
open Tryz Go.RowKit Flt
set_option maxRecDepth 1000000
set_option maxHeartbeats 0
section
attribute[local go_sem] eG eE
def niN(bs:List Int)(i:Nat):Nat->Nat
 |0=>i
 |k+1=>ni bs (niN bs i k)
def dfI(bs:List Int)(i:Nat):Nat:=if nv bs i%16=10 then ni bs (ni bs i)else if 14<=nv bs i%16 then niN bs (ni bs i) 8 else ni bs i
def dfB(bs:List Int)(i:Nat):Nat->Int
 |0=>0
 |k+1=>IntKind.u64.wrap (IntKind.u64.wrap (dfB bs i k*256)+IntKind.u64.wrap (nv bs (niN bs i k):Int))
def dfV(bs:List Int)(i:Nat):Nat:=
 if nv bs i%16<6 then floatOfInt .f64 ((nv bs i:Int)/16)
 else if nv bs i%16<9 then Op.negFloat .f64 (floatOfInt .f64 ((nv bs i:Int)/16))
 else if nv bs i%16=9 then cop .quo (floatOfInt .f64 ((nv bs i:Int)/16)) 4620693217682128896
 else if nv bs i%16=10 then cop .quo (floatOfInt .f64 ((nv bs i:Int)/16)) (floatOfInt .f64 (wrap64 ((nv bs (ni bs i):Int)+1)))
 else if nv bs i%16=11 then[0,9223372036854775808,9218868437227405312,18442240474082181120,9221120237041090560,1,9223372036854775809,4503599627370496,9218868437227405311,18442240474082181119,4607182418800017408,13830554455654793216,4591870180066957722,4846369599423283200,4841369599423283202,20240225330731].getD (nv bs i/16) 0
 else if nv bs i%16=12 then cop .mul (floatOfInt .f64 ((nv bs i:Int)/16)) 9094988921128908188
 else if nv bs i%16=13 then cop .mul (Op.negFloat .f64 (floatOfInt .f64 ((nv bs i:Int)/16))) 2024
 else if nv bs i%16=14 then ffV (bits .or .u64 (dfB bs (ni bs i) 8) (IntKind.u64.wrap (IntKind.u64.wrap (wrap64 ((nv bs i:Int)/16))*576460752303423488))).toNat
 else ffV (dfB bs (ni bs i) 8).toNat
theorem Il(bs i):∀k,0<=dfB bs i k/\dfB bs i k<18446744073709551616
 |0=>⟨Int.le_refl _,by show(0:Int)<_;decide⟩
 |k+1=>⟨wrap_u64_nonneg _,sf _⟩
def DfO(P:Nat)(a:Option Addr)(n cap i:Nat)(bs:List Int)(w:World)(x:Nat)(e:Ending)(w':World):Prop:=∃z,e=.returned (.float .f64 z)/\fb z=fb x/\z<18446744073709551616/\RdF w' P a n cap i bs/\Kept P (P+1) w w'
theorem RdF.drw{w P a n cap i bs}(f:RdF w P a n cap i bs)(m):RdF (w.drewN m) P a n cap i bs:=f.keep (eK 0 0 w m) yab
theorem N7(w P a n cap i bs)(h:RdF w P a n cap i bs):
  Calls prog 73 #[hB P] w (DfO P a n cap (dfI bs i) bs w (dfV bs i)):=by
 have ak:=fH h.ys i;have bu:V _:=jh w P a n cap i bs h;have HD:V (dfI bs i=if nv bs i%16=10 then ni bs (ni bs i)else if 14<=nv bs i%16 then niN bs (ni bs i) 8 else ni bs i):=rfl;unfold DfO;have q:∃T,fb (dfV bs i)=T:=⟨_,rfl⟩
 obtain⟨T,aD⟩:=q;rw[aD];unfold dfV at aD;have bL:V _:=aD.symm;clear aD;generalize dfI bs i=p at HD⊢;generalize nv bs i=x at bu HD bL ak;have f1:=@kK prog;have f2:=@mg prog;have f3:=qQ;clear h;go_enter func73,ntmps73;go_wp2_with fail;refine yaj bu.o ?_;rintro e aO ⟨rfl,B,au,b8⟩;clear b8 bu;have bV:V (x%16≠10->x%16<14->p=ni bs i):=λc d=>by rw[HD.o,hF c,hF xaa]
 have g:V (x%16=10->p=ni bs (ni bs i)):=λc=>by rw[HD.o,hG c]
 have f:V (14<=x%16->p=niN bs (ni bs i) 8):=λc=>by rw[HD.o,hF xaa,hG c]
 clear HD;rcases JD x with N|N|N|N|N|N|N|N|N
 ·have bp:=bL.o;rw[hG xaa]at bp;have bo:V _:=bp;clear bL bp;have G:=bV.o xaa xaa;clear bV g f;subst G;have av:(x:Int)%16<6:=xaa;clear N;go_wp2;go_ret;exact⟨_,rfl,bo.o.symm,qR _,B,au⟩
 ·have bp:=bL.o;rw[hF xaa,hG xaa]at bp;have bo:V _:=bp;clear bL bp;have G:=bV.o xaa xaa;clear bV g f;subst G;have av:6<=(x:Int)%16:=xaa;have r:(x:Int)%16<9:=xaa;clear N;go_wp2;go_ret;exact⟨_,rfl,bo.o.symm,xu (qR _),B,au⟩
 ·have bp:=bL.o;rw[hF xaa,hF xaa,hG xaa]at bp;have bo:V _:=bp;clear bL bp;have G:=bV.o xaa xaa;clear bV g f;subst G;have av:(x:Int)%16=9:=xaa;exact xeh
 ·have bp:=bL.o;rw[hF xaa,hF xaa,hF xaa,hG xaa]at bp;have bo:V _:=bp;clear bL bp;have G:=g.o N;clear bV g f;subst G;have av:(x:Int)%16=10:=xaa;clear N;go_wp2_with fail;refine(jh _ _ _ _ _ _ _ B).mono ?_;rintro e ag ⟨rfl,J,H,b5⟩;clear b5;go_wp2;go_ret;exact⟨_,rfl,(gu _ _ _ _).trans bo.o.symm,gN _ _ _ _,J.drw _,au.trans (H.trans (eK _ _ _ _))⟩
 ·have bp:=bL.o;rw[hF xaa,hF xaa,hF xaa,hF xaa,hG xaa]at bp;have bo:V _:=bp;clear bL bp;have G:=bV.o xaa xaa;clear bV g f;subst G;have ah:x=11\/x=27\/x=43\/x=59\/x=75\/x=91\/x=107\/x=123\/x=139\/x=155\/x=171\/x=187\/x=203\/x=219\/x=235\/x=251:=xaa;clear N ak;rcases ah with rfl|rfl|rfl|rfl|rfl|rfl|rfl|rfl|rfl|rfl|rfl|rfl|rfl|rfl|rfl|rfl
  all_goals
   go_wp2
   go_ret
   refine⟨_,rfl,?_,?_,(B.keep (ez 0 0 _ _) yab).drw _,(au.trans (ez _ _ _ _)).trans (eK _ _ _ _)⟩
   ·rw[bo.o];first|rfl|(rw[gu];rfl)|(rw[gu];decide)
   ·first|exact gN _ _ _ _|exact xu xaa|omega
 ·have bp:=bL.o;rw[hF xaa,hF xaa,hF xaa,hF xaa,hF xaa,hG xaa]at bp;have bo:V _:=bp;clear bL bp;have G:=bV.o xaa xaa;clear bV g f;subst G;have av:(x:Int)%16=12:=xaa;exact xeh
 ·have bp:=bL.o;rw[hF xaa,hF xaa,hF xaa,hF xaa,hF xaa,hF xaa,hG xaa]at bp;have bo:V _:=bp;clear bL bp;have G:=bV.o xaa xaa;clear bV g f;subst G;have av:(x:Int)%16=13:=xaa;exact xeh
 ·have bp:=bL.o;rw[hF xaa,hF xaa,hF xaa,hF xaa,hF xaa,hF xaa,hF xaa,hG xaa]at bp;have bo:V _:=bp;clear bL bp;have G:=f.o xaa;clear bV g f;have l:V _:=G;clear G;have HK:V ((x:Int)%16=14):=by show(x:Int)%16=14;omega
  have av:=HK.o;clear N;go_wp2_with fail;clear f1 f2 f3 av ak;go_loopw [9,10] (λb t W=>∃j:Nat,j<=8/\t=hD (j:Nat)/\b=.int .u64 (dfB bs (ni bs i) j)/\RdF W P a n cap (niN bs (ni bs i) j) bs/\Kept P (P+1) w W) (λ_ t _=>8-(intOf t).toNat)
  case atStart=>exact⟨0,by omega,rfl,rfl,B,au⟩
  case round=>
   obtain⟨j,hj,rfl,rfl,C,aS⟩:=hrel;by_cases aC:j<8
   ·exact xew
   have k:j=8:=xaa;have av:=HK.o;have aA:V _:=Il bs (ni bs i) j;have HR:V _:=C;rw[k]at HR;rw[k]at aA⊢;clear C k hj;go_wp2_with fail;obtain⟨aj,bc,aB⟩:=MZ (dfB bs (ni bs i) 8) (IntKind.u64.wrap (IntKind.u64.wrap (wrap64 ((x:Int)/16))*576460752303423488)) aA.o.1 aA.o.2 (wrap_u64_nonneg _) (sf _);have bO:V (fb (ffV aj)=T):=by show _=_;rw[bo.o,bc];rfl
   rw[bc];refine(vJ aj _ aB).mono ?_;rintro e ag ⟨y,rfl,bX,K,m,rfl⟩;replace bO:V _:=bX.trans bO.o;clear bc aB bX av;exact xie
 have bp:=bL.o;rw[hF xaa,hF xaa,hF xaa,hF xaa,hF xaa,hF xaa,hF xaa,hF xaa]at bp;have bo:V _:=bp;clear bL bp;have G:=f.o xaa;clear bV g f;have l:V _:=G;clear G;have HK:V ((x:Int)%16=15):=by show(x:Int)%16=15;omega
 have av:=HK.o;clear N;go_wp2_with fail;clear f1 f2 f3 av ak;go_loopw [9,10] (λb t W=>∃j:Nat,j<=8/\t=hD (j:Nat)/\b=.int .u64 (dfB bs (ni bs i) j)/\RdF W P a n cap (niN bs (ni bs i) j) bs/\Kept P (P+1) w W) (λ_ t _=>8-(intOf t).toNat)
 case atStart=>exact⟨0,by omega,rfl,rfl,B,au⟩
 case round=>
  obtain⟨j,hj,rfl,rfl,C,aS⟩:=hrel;by_cases aC:j<8
  ·exact xew
  have k:j=8:=xaa;have av:=HK.o;have aA:V _:=Il bs (ni bs i) j;have HR:V _:=C;rw[k]at HR;rw[k]at aA⊢;clear C k hj;go_wp2_with fail;obtain⟨aj,bc⟩:=Int.eq_ofNat_of_zero_le aA.o.1;have aB:aj<18446744073709551616:=hM aA.o.2
  have bO:V (fb (ffV aj)=T):=by show _=_;rw[bo.o,bc];rfl
  rw[bc];clear bc;refine(vJ aj _ aB).mono ?_;rintro e ag ⟨y,rfl,bX,K,m,rfl⟩;replace bO:V _:=bX.trans bO.o;clear bX av;exact xie
end
section
attribute[local go_sem] eG eE eD
variable{W' I:World}{R l h i Q n1 c1 c2 n3 c3:Nat}{a1 Y a3:Option Addr}{u1 u2 u3:Value}{bs ins outs:List Int}{vs:List Vl}
structure DG(w:World)(B:Nat)(u1 u2 u3:Value)(ins:List Int)(vs:List Vl)(outs:List Int):Prop where
 r1:w.ownsRow B 3 1 u1 ins.length (ins.map (Value.int .i64))
 r2:w.ownsRow B 60 6 u2 vs.length (fK vs)
 r3:w.ownsRow B 3 1 u3 outs.length (outs.map (Value.int .i64))
 a12:Apart u1 u2
 a13:Apart u1 u3
 a23:Apart u2 u3
 k:∀v∈vs,v.k<18446744073709551616
 sz:B<=w.heap.size
theorem DG.kept{w}(f:DG w R u1 u2 u3 ins vs outs)(k:Kept l h w I)(cG:h<=R):DG I R u1 u2 u3 ins vs outs:=
 ⟨fX f.r1 k λ_ e=>.inr (yao cG (eH f.r1 e).1),fX f.r2 k λ_ e=>.inr (yao cG (eH f.r2 e).1),fX f.r3 k λ_ e=>.inr (yao cG (eH f.r3 e).1),f.a12,f.a13,f.a23,f.k,yao f.sz k.size⟩
theorem DG.keep{w}(f:DG w R u1 u2 u3 ins vs outs)(k:Kept 0 0 w I):DG I R u1 u2 u3 ins vs outs:=f.kept k yae
theorem RdF.keep0{w P a n cap}(f:RdF w P a n cap i bs)(k:Kept 0 0 w I):RdF I P a n cap i bs:=f.keep k yab
theorem fh{w}(k:Kept 0 0 w I):Kept l h w I:=⟨k.os,k.tape,k.output,k.size,λi hi _=>k.block i hi xaa⟩
theorem RB.kept{W p bH O ax}(t:RB W p bH O ax)(k:Kept l h W W')(aK:p<l\/h<=p):RB W' p bH O ax:=
 have e:∀o,W'.cell? ⟨p,o,none⟩=W.cell? ⟨p,o,none⟩:=λo=>k.cell (p:=⟨p,o,none⟩) t.sz (by show ¬(l<=p/\p<h);omega)
 have j:∀o,W'.frozen? ⟨p,o,none⟩=W.frozen? ⟨p,o,none⟩:=λo=>k.frozen (p:=⟨p,o,none⟩) t.sz (by show ¬(l<=p/\p<h);omega)
 ⟨yak t.sz k.size,hO e t.q0,hO e t.q1,hO e t.q2,hO j t.f0,hO j t.f1,hO j t.f2⟩
def nV(vs:List Vl)(n:Int)(fr:Nat):Nat->Nat->Int
 |0,_=>-1
 |m+1,k=>if (vs.getD ((fr+k)%vs.length) hI).len=n then (((fr+k)%vs.length:Nat):Int)else nV vs n fr m (k+1)
def jS(vs:List Vl)(n:Int)(fr:Nat):Int:=nV vs n fr vs.length 0
theorem ig{W n u}(h:W.ownsRow R 60 6 u n (fK vs))(ab:vs.length=n){k}(N:k<n):∃g cap,u=hC g n cap/\R<=g/\g<W.heap.size/\At W g (k*6) (vs.getD k hI):=by
 obtain⟨g,cap,e,B,J,_,a0⟩:=mh h xaa ab;exact⟨g,cap,e,B,J,a0.at_ k N⟩
theorem Pw{w P a n cap T}(J:w.ownsRow R 60 6 (.slice Y T c2) T (fK vs))(ab:vs.length=T)(hn:T<=100000)(C:RdF w P a n cap i bs)(hP:P<R)(q):
  Calls prog 74 #[eV a1 n1 c1 Y T c2 a3 n3 c3,hD q,hB P] w λe I=>e=.returned (hD (jS vs q (nv bs i)))/\RdF I P a n cap (ni bs i) bs/\Kept P (P+1) w I:=by
 have an:=ez 0 0 w (eW a1 n1 c1 Y T c2 a3 n3 c3);have bl:=fH C.ys i;have aA:V _:=ft w (.slice a1 n1 c1) (.slice Y T c2) (.slice a3 n3 c3);have bu:V _:=jh _ P a n cap i bs (C.keep0 an);have HK:V _:=an;have HO:V _:=eR J an;have aa:V (jS vs q (nv bs i)=nV vs q (nv bs i) (T-0) 0):=by show nV vs q (nv bs i) vs.length 0=_;rw[ab];rfl
 have cC:V (P≠w.heap.size):=by have:=C.lt;show P≠_;omega
 generalize jS vs q (nv bs i)=r at aa⊢;generalize nv bs i=x at bu aa bl;have HL:V (vs.length=T):=ab;clear an J C ab;go_enter func74,ntmps74;go_wp2_with fail;refine yaj bu.o ?_;rintro e ag ⟨rfl,(bz:V _),ah,ci⟩;clear ci;have bD:V (Kept P (P+1) w ag):=(fh HK.o).trans ah;have ad:V _:=fX HO.o ah λ_ e=>.inr (hM ((eH HO.o e).1));have bc:V (∀o,ag.cell? ⟨w.heap.size,o,none⟩=(w.alloc (eW a1 n1 c1 Y T c2 a3 n3 c3)).cell? ⟨w.heap.size,o,none⟩):=λo=>ah.cell (p:=⟨w.heap.size,o,none⟩) xac (by show ¬(P<=w.heap.size/\w.heap.size<P+1);have:=cC.o;omega);have aL:ag.cell? ⟨w.heap.size,1,none⟩=some (.slice Y T c2):=by rw[bc.o];obtain⟨_,_,aN,_⟩:=aA.o;exact aN
 clear ah HK HO bu bc aA;go_wp2_with fail;go_loopw [8] (λt W=>∃k:Nat,k<=T/\t=hD k/\V (r=nV vs q x (T-k) k)/\W=ag) (λt _=>T-(intOf t).toNat)
 case atStart=>exact⟨0,yae,rfl,aa.o,rfl⟩
 case round=>
  obtain⟨k,N,rfl,av,rfl⟩:=hrel;by_cases aC:k<T
  ·have aq:(x+k)%T<T:=Nat.mod_lt _ xaa;obtain⟨g,cp,aK,bp,aR,be⟩:=ig ad.o HL.o aq;cases aK;have aM:=be.c1;have m:((x:Int)+k)%(T:Int)=(((x+k)%T:Nat):Int):=by rw[Int.natCast_emod,Int.natCast_add]
   have HR:V (r=if (vs.getD ((x+k)%T) hI).len=q then (((x+k)%T:Nat):Int)else nV vs q x (T-(k+1)) (k+1)):=by
    have e:T-k=(T-(k+1))+1:=xaa;have:=av.o;rw[e,nV,HL.o]at this;exact this
   clear av be;generalize (vs.getD ((x+k)%T) hI).len=z at aM HR;generalize (x+k)%T=j at aq aM HR m;by_cases bi:z=q
   ·subst bi;have c:V (r=(j:Int)):=HR.o.trans (hG rfl);clear HR aa;go_wp2;go_ret;exact⟨by rw[c.o,<-m];rfl,bz.o,bD.o⟩
   have c:V _:=HR.o.trans (hF bi);clear HR aa;go_wp2;go_roundw;exact⟨k+1,by omega,by go_num,c.o,trivial⟩;simp[intOf];omega
  have b2:k=T:=xaa;have c:V (r=-1):=by have:=av.o;rw[b2,Nat.sub_self,nV]at this;exact this
  clear av aa b2;go_wp2;go_ret;exact⟨hS c.o,bz.o,bD.o⟩
theorem Cz{w P a n cap}(h:RdF w P a n cap i bs):
  Calls prog 39 #[hB P] w λe I=>e=.returned (hD ((bs.length:Int)-i))/\Kept 0 0 w I:=by
 have ae:=h.c0;have B:=h.c1;have hn:=h.small;have hi:=h.hi;have ab:V (n=bs.length):=h.ys.len.symm;clear h;go_enter func39,ntmps39;go_wp2;go_quiet (fail)
 go_wp2;go_ret;exact⟨by rw[<-ab.o];rfl,eK _ _ _ _⟩
variable{w W W':World}{P n cap i nE cE:Nat}{a aE:Option Addr}{bs:List Int}{env:List (List UInt8×Int)}
structure En(w:World)(P:Nat)(aE:Option Addr)(nE:Nat)(env:List (List UInt8×Int)):Prop where
 len:env.length=nE
 le:nE<=100
 at_:∀k,k<nE->∃g,aE=some ⟨g,0,none⟩/\P<g/\g<w.heap.size/\w.cell? ⟨g,k*2,none⟩=some (eN (env.getD k ([],0)).1)/\w.cell? ⟨g,k*2+1,none⟩=some (.int .i64 (env.getD k ([],0)).2)
theorem En.keep(f:En w P aE nE env)(k:Kept P (P+1) w W):En W P aE nE env:=
 ⟨f.len,f.le,λj hj=>by
  obtain⟨g,e,B,J,c0,c1⟩:=f.at_ j hj
  exact⟨g,e,B,yak J k.size,(k.cell J (by show ¬(P<=g/\g<P+1);omega)).trans c0,(k.cell J (by show ¬(P<=g/\g<P+1);omega)).trans c1⟩⟩
theorem En.keep0(f:En w P aE nE env)(k:Kept 0 0 w W):En W P aE nE env:=f.keep (fh k)
def ofG(env:List (List UInt8×Int))(q:Int)(c:Nat):Nat->Nat->List UInt8
 |0,_=>[]
 |m+1,k=>if (env.getD ((k+c)%env.length) ([],0)).2=q then (env.getD ((k+c)%env.length) ([],0)).1 else ofG env q c m (k+1)
def ofM(env:List (List UInt8×Int))(q:Int)(c:Nat):List UInt8:=ofG env q c env.length 0
theorem N8(f:En w P aE nE env)(C:RdF w P a n cap i bs)(q):
  Calls prog 123 #[.slice aE nE cE,hD q,hB P] w λe I=>e=.returned (eN (ofM env q (nv bs i)))/\RdF I P a n cap (ni bs i) bs/\Kept P (P+1) w I:=by
 have bl:=fH C.ys i;have bu:V _:=jh w P a n _ i _ C;have aI:V _:=f;have aa:V (ofM env q (nv bs i)=ofG env q (nv bs i) (nE-0) 0):=by show ofG _ _ _ _ _=_;rw[f.len];rfl
 have hn:=f.le;generalize ofM _ q _=r at aa⊢;generalize nv _ i=x at bu aa bl;clear f C;go_enter func123,ntmps123;go_wp2_with fail;refine yaj bu.o ?_;rintro e ag ⟨rfl,(bz:V _),(bD:V _),ci⟩;clear ci bu;have aH:V _:=aI.o.keep bD.o;clear aI;go_wp2_with fail;go_loopw [8] (λt W=>∃k:Nat,k<=nE/\t=hD k/\V (r=ofG env q x (nE-k) k)/\V (Kept 0 0 ag W)) (λt _=>nE-(intOf t).toNat)
 case atStart=>exact⟨0,yae,rfl,aa.o,hL⟩
 case round=>
  obtain⟨k,N,rfl,av,aw⟩:=hrel;by_cases aC:k<nE
  ·have aq:(k+x)%nE<nE:=Nat.mod_lt _ xaa;obtain⟨g,aK,bp,aR,bb,aM⟩:=(aH.o.keep0 aw.o).at_ _ aq;have m:(k+(x:Int))%nE=((k+x)%nE:Nat):=by rw[Int.natCast_emod,Int.natCast_add]
   have HR:V (r=if (env.getD ((k+x)%nE) ([],0)).2=q then (env.getD ((k+x)%nE) ([],0)).1 else ofG env q x (nE-(k+1)) (k+1)):=by
    have e:nE-k=(nE-(k+1))+1:=xaa;have:=av.o;rw[e,ofG,aH.o.len]at this;exact this
   clear av;subst aK;generalize env.getD _ _=z at bb aM HR;generalize (k+x)%nE=j at aq bb aM HR m;obtain⟨aN,a2⟩:=z;simp only at bb aM HR;have F:V (Kept 0 0 _ (wr.alloc (.cells #[eN aN,hD a2] 103))):=aw.o.trans (ez 0 0 _ _);by_cases bi:a2=q
   ·subst bi;have c:V _:=HR.o.trans (hG rfl);clear HR aa;go_wp2;go_ret;exact⟨hS c.o,bz.o.keep0 F.o,bD.o.trans (fh F.o)⟩
   have c:V _:=HR.o.trans (hF bi);clear HR aa;go_wp2;go_roundw;exact⟨k+1,by omega,by go_num,c.o,F⟩;simp[intOf];omega
  have b2:k=nE:=xaa;have c:V (r=[]):=by have:=av.o;rw[b2,Nat.sub_self,ofG]at this;exact this
  clear av aa b2;go_wp2;go_ret;exact⟨hS c.o,bz.o.keep0 aw.o,bD.o.trans (fh aw.o)⟩
structure Xd where
 w:World
 P:Nat
 n:Nat
 cap:Nat
 nE:Nat
 cE:Nat
 a:Option Addr
 aE:Option Addr
structure Sd(X:Xd)(env:List (List UInt8×Int))(bs:List Int)(i:Nat)(W:World):Prop where
 rd:RdF W X.P X.a X.n X.cap i bs
 en:En W X.P X.aE X.nE env
 kp:Kept X.P (X.P+1) X.w W
variable{X:Xd}{W W':World}{env:List (List UInt8×Int)}{bs:List Int}{i j:Nat}
theorem Sd.go(h:Sd X env bs i W)(r:RdF W' X.P X.a X.n X.cap j bs)(k:Kept X.P (X.P+1) W W'):Sd X env bs j W':=⟨r,h.en.keep k,h.kp.trans k⟩
theorem Sd.keep0(h:Sd X env bs i W)(k:Kept 0 0 W W'):Sd X env bs i W':=h.go (h.rd.keep0 k) (fh k)
def Tx(X:Xd)(env:List (List UInt8×Int))(bs:List Int)(j:Nat)(v:Value)(e:Ending)(w':World):Prop:=e=.returned v/\Sd X env bs j w'
theorem nxS(h:Sd X env bs i W):Calls prog 33 #[hB X.P] W (Tx X env bs (ni bs i) (hD (nv bs i:Int))):=
 (jh W X.P X.a X.n X.cap i bs h.rd).mono λ_ _ ⟨e,r,k,_⟩=>⟨e,h.go r k⟩
theorem lfS(h:Sd X env bs i W):Calls prog 39 #[hB X.P] W (Tx X env bs i (hD ((bs.length:Int)-i))):=
 (Cz h.rd).mono λ_ _ ⟨e,k⟩=>⟨e,h.keep0 k⟩
theorem olS(q)(h:Sd X env bs i W):Calls prog 123 #[.slice X.aE X.nE X.cE,hD q,hB X.P] W (Tx X env bs (ni bs i) (eN (ofM env q (nv bs i)))):=
 (N8 h.en h.rd q).mono λ_ _ ⟨e,r,k⟩=>⟨e,h.go r k⟩
theorem nbS(h:Sd X env bs i W):Calls prog 150 #[hB X.P] W (Tx X env bs (ni bs i) (eN (l3n (nv bs i)))):=
 (A0 W X.P X.a X.n X.cap i bs h.rd).mono λ_ _ ⟨e,r,k,_⟩=>⟨e,h.go r k⟩
theorem dcS{q:Nat}(am:q<=1000)(h:Sd X env bs i W):Calls prog 71 #[hD q] W (Tx X env bs i (eN (gZ q))):=
 (y9 q q yad xaa W).mono λ_ _ ⟨e,e2⟩=>⟨e,e2 ▸ h⟩
theorem sz2{x y:ByteArray}{G:Prop}(h:x.size+y.size<=1000000)(k:¬9223372036854775807<x.size+y.size->x.size<=1000000->G):G:=k xaa xaa
theorem N9(ar:∀x∈env,x.1.length<=5)(q c):(ofM env q c).length<=5:=by
 have h:∀m k,(ofG env q c m k).length<=5:=by
  intro m;induction m with
  |zero=>exact λ_=>by simp[ofG]
  |succ m aa=>
   intro k;rw[ofG];split
   ·rw[yai];cases e:env[(k+c)%env.length]? with
    |none=>simp
    |some x=>exact ar x (List.mem_of_getElem? e)
   exact aa _
 exact h _ _
theorem Oa{x}(h:x<256):(l3n x).length<=300:=by
 have:=jO x;have:=jO (x/10%6);unfold l3n;(repeat' split)<;>simp<;>omega
def Dr(env:List (List UInt8×Int))(bs:List Int)(i f:Nat)(xs:Xd->Array Value)(m:Nat)(s:ByteArray)(j:Nat):Prop:=s.size<=m/\∀X W,V (Sd X env bs i W)->Calls prog f (xs X) W (Tx X env bs j (.string s))
theorem gn{f m:Nat}{xs s}(bi:s.size<=m)(aq:m<=1000000)(h:s.size<=1000000->∀X W,V (Sd X env bs i W)->Calls prog f (xs X) W (Tx X env bs j (.string s))):Dr env bs i f xs m s j:=⟨bi,h (yao bi aq)⟩
theorem olD(ar:∀x∈env,x.1.length<=5)(q i):∃s j,Dr env bs i 123 (λX=>#[.slice X.aE X.nE X.cE,hD q,hB X.P]) 5 s j:=⟨_,_,by rw[gi];exact N9 ar q _,λ_ _ h=>olS q h.o⟩
theorem nbD(hb:∀i,nv bs i<256)(i):∃s j,Dr env bs i 150 (λX=>#[hB X.P]) 300 s j:=⟨_,_,by rw[gi];exact Oa (hb i),λ_ _ h=>nbS h.o⟩
theorem dcD{q}(ae:0<=q)(h3:q<=3):∃s,∀i,Dr env bs i 71 (λ_=>#[hD q]) 5 s i:=by
 obtain⟨q,rfl⟩:=Int.eq_ofNat_of_zero_le ae;exact⟨_,λ_=>⟨by rw[gi];have:=jO q;omega,λ_ _ h=>dcS xaa h.o⟩⟩
theorem uV(s:ByteArray):s.toList=[]/\s.toList.isEmpty=true\/¬s.toList=[]/\s.toList.isEmpty=false:=by
 by_cases h:s.toList=[]
 ·exact .inl ⟨h,hS h⟩
 exact .inr ⟨h,by simp[h]⟩
theorem Mm(ar:∀x∈env,x.1.length<=5)(hb:∀i,nv bs i<256)(q)(am:1<=q/\q<=3)(i):∃s j,Dr env bs i 122 (λX=>#[.slice X.aE X.nE X.cE,hD q,hB X.P]) 1000 s j:=by
 obtain⟨aT,b9,A⟩:=olD (bs:=bs) ar q i;obtain⟨ao,bK,R⟩:=nbD (env:=env) hb (ni bs b9);obtain⟨aG,D⟩:=dcD (env:=env) (bs:=bs) (by omega:0<=q) am.2;have ae:=A.1;have B:=R.1;have J:=(D 0).1;rcases uV aT with⟨bf,aY⟩|⟨bf,aY⟩<;>rcases (by omega:q=1\/¬q=1) with rfl|bW<;>rcases (by omega:(nv bs b9:Int)%4=0\/0<(nv bs b9:Int)%4) with aP|aP
 ·exact xbe
 ·exact xbe
 ·exact xav
 ·exact xav
 ·exact xbe
 ·exact xcl
 ·exact xav
 exact xcl
abbrev iS:Value:=.slice none 0 0
structure GrS(W:World)(B P:Nat)(a:Option Addr)(n cap i:Nat)(bs:List Int)(Q:Nat)(u1 u2 u3:Value)(ins:List Int)(vs:List Vl)(outs:List Int):Prop where
 rd:RdF W P a n cap i bs
 dg:DG W B u1 u2 u3 ins vs outs
 bx:RB W Q u1 u2 u3
 rs:RB W (Q+1) iS iS iS
 pb:P<B
 bq:B<=Q
 far:∀b,u1.ownBlock=some b\/u2.ownBlock=some b\/u3.ownBlock=some b->b<Q
theorem GrS.step{W P a n cap K}(f:GrS W R P a n cap i bs Q u1 u2 u3 ins vs outs)(C:RdF W' P a n cap K bs)(k:Kept P (P+1) W W'):GrS W' R P a n cap K bs Q u1 u2 u3 ins vs outs:=
 ⟨C,f.dg.kept k (hM f.pb),f.bx.kept k (hN f.pb f.bq),f.rs.kept k (hN f.pb f.bq),f.pb,f.bq,f.far⟩
theorem GrS.keep{W P a n cap}(f:GrS W R P a n cap i bs Q u1 u2 u3 ins vs outs)(k:Kept 0 0 W W'):GrS W' R P a n cap i bs Q u1 u2 u3 ins vs outs:=f.step (f.rd.keep0 k) (fh k)
theorem GrS.next{W P a n cap}(f:GrS W R P a n cap i bs Q u1 u2 u3 ins vs outs):
  Calls prog 33 #[hB P] W λe W'=>e=.returned (hD (nv bs i:Int))/\GrS W' R P a n cap (ni bs i) bs Q u1 u2 u3 ins vs outs/\Kept P (P+1) W W':=
 (jh W P a n cap i bs f.rd).mono λ_ _ q=>⟨q.1,f.step q.2.1 q.2.2.1,q.2.2.1⟩
theorem GrS.start{w P a n cap}(f:DG w R u1 u2 u3 ins vs outs)(C:RdF w P a n cap i bs)(hP:P<R):
  GrS ((w.alloc (.cells #[u1,u2,u3] 26)).alloc fj) R P a n cap i bs w.heap.size u1 u2 u3 ins vs outs/\Kept 0 0 w ((w.alloc (.cells #[u1,u2,u3] 26)).alloc fj):=by
 have aj:=ez 0 0 w (.cells #[u1,u2,u3] 26);have ah:=ez 0 0 (w.alloc (.cells #[u1,u2,u3] 26)) fj;have hb:=sO (S:=λ_=>False) w _ #[u1,u2,u3] 26 (ah.chg) (λc=>c);have bw:=fF (w.alloc (.cells #[u1,u2,u3] 26));rw[show(w.alloc (.cells #[u1,u2,u3] 26)).heap.size=w.heap.size+1 by simp]at bw;refine⟨⟨C.keep0 (aj.trans ah),f.keep (aj.trans ah),⟨hb.2.2,hb.1 0,hb.1 1,hb.1 2,hb.2.1 0,hb.2.1 1,hb.2.1 2⟩,bw,hP,f.sz,?_⟩,aj.trans ah⟩;rintro b (c|c|c)
 ·exact(eH f.r1 c).2
 ·exact(eH f.r2 c).2
 exact(eH f.r3 c).2
def fbz(k:Nat):Nat:=if k=0 then 0 else fb k
theorem Bt(k):fbz k=fb k:=by
 unfold fbz;split
 ·rename_i h;rw[h];exact fb_zero.symm
 rfl
def sv(v:Vl):Vl:=⟨v.op,v.len,v.a,v.b,v.c,fbz v.k⟩
def GwO(w:World)(B P:Nat)(a:Option Addr)(n cap i:Nat)(bs:List Int)(u1 u2 u3:Value)(ins:List Int)(vs:List Vl)(outs:List Int)(v0:Vl)(e:Ending)(w':World):Prop:=
 ∃v g' cap',e=.returned (.agg #[u1,.slice (some ⟨g',0,none⟩) (vs.length+1) cap',u3])/\sv v=v0/\DG w' B u1 (.slice (some ⟨g',0,none⟩) (vs.length+1) cap') u3 ins (vs++[v]) outs/\RdF w' P a n cap i bs/\Chg (λb=>b=P\/u2.ownBlock=some b) w w'/\(u2.ownBlock=some g'\/w.heap.size<=g')
theorem rW{w P a n cap S}(f:RdF w P a n cap i bs)(k:Chg S w I)(aZ:∀b,S b->P<b):RdF I P a n cap i bs where
 lt:=yak f.lt k.size
 c0:=by rw[k.cell (p:=⟨P,0,none⟩) f.lt (λc=>Nat.lt_irrefl _ (aZ _ c))];exact f.c0
 c1:=by rw[k.cell (p:=⟨P,1,none⟩) f.lt (λc=>Nat.lt_irrefl _ (aZ _ c))];exact f.c1
 fz:=by rw[k.frozen (p:=⟨P,1,none⟩) f.lt (λc=>Nat.lt_irrefl _ (aZ _ c))];exact f.fz
 hi:=f.hi
 small:=f.small
 ys:=⟨f.ys.len,f.ys.lt,f.ys.at_.imp id λ⟨g,off,e,h3,a0⟩=>⟨g,off,e,yak h3 k.size,λj hj=>by rw[k.cell (p:=⟨g,off+j,none⟩) h3 (λc=>by have bz:P<g:=aZ _ c;have:=f.ne xaa g off e;omega)];exact a0 j hj⟩⟩
 ne:=f.ne
theorem GrS.put{w W az R P a n cap i bs a1 Y a3 n1 c1 c2 n3 c3 ins vs outs}(f:GrS W R P a n cap i bs w.heap.size (.slice a1 n1 c1) (.slice Y vs.length c2) (.slice a3 n3 c3) ins vs outs)(an:Kept P (P+1) w W)(k:Kept 0 0 W az)(v)(aD:v.k<18446744073709551616)(hn:vs.length<=100000):
  Calls prog 38 #[eV a1 n1 c1 Y vs.length c2 a3 n3 c3,v.agg] az λe ag=>∃aB cap',e=.returned (eV a1 n1 c1 (some ⟨aB,0,none⟩) (vs.length+1) cap' a3 n3 c3)/\RB ag (w.heap.size+1) iS iS iS/\GwO w R P a n cap i bs (.slice a1 n1 c1) (.slice Y vs.length c2) (.slice a3 n3 c3) ins vs outs (sv v) (.returned (eV a1 n1 c1 (some ⟨aB,0,none⟩) (vs.length+1) cap' a3 n3 c3)) (fw ag (w.heap.size+1) (.slice a1 n1 c1) (hC aB (vs.length+1) cap') (.slice a3 n3 c3)):=by
 have f1:=f.keep k;have J:=f.pb;have H:=f.bq;have ci:=f1.dg.sz;refine(se az a1 Y a3 n1 c1 c2 n3 c3 R vs v f1.dg.r2 ci xaa).mono ?_;rintro e ag ⟨aB,cap',rfl,aZ,ar⟩;have g:∀b,(Value.slice Y vs.length c2).ownBlock=some b->b<w.heap.size/\R<=b:=λb hb=>⟨f.far b (.inr (.inl hb)),(eH f1.dg.r2 hb).1⟩
 have t:(Value.slice Y vs.length c2).ownBlock=some aB\/az.heap.size<=aB:=by
  exact xee
 have aa:w.heap.size+1<az.heap.size:=f1.rs.sz
 have F:aB≠w.heap.size+1:=by
  rcases t with c|c
  ·have:=(g _ c).1;omega
  omega
 have e1:∀o,ag.cell? ⟨w.heap.size+1,o,none⟩=az.cell? ⟨w.heap.size+1,o,none⟩:=λo=>ar.chg.cell (p:=⟨w.heap.size+1,o,none⟩) aa (by rintro (c|c);exact c;have bz:w.heap.size+1<w.heap.size:=(g _ c).1;omega);have e2:∀o,ag.frozen? ⟨w.heap.size+1,o,none⟩=az.frozen? ⟨w.heap.size+1,o,none⟩:=λo=>ar.chg.frozen (p:=⟨w.heap.size+1,o,none⟩) aa (by rintro (c|c);exact c;have bz:w.heap.size+1<w.heap.size:=(g _ c).1;omega);have B:=f1.rs;have K:=fg ag (w.heap.size+1) (.slice a1 n1 c1) (hC aB (vs.length+1) cap') (.slice a3 n3 c3);have q:∀{u:Value}{xs:List Value}{m e s:Nat},az.ownsRow R e s u m xs->Apart (.slice Y vs.length c2) u->ag.ownsRow R e s u m xs:=λ{u xs m e s} o bU=>fy o ar.chg (by rintro b hb (c|c);exact c;exact bU b c hb);have p:∀{W:World}{u:Value}{xs:List Value}{m e s:Nat}{x y z:Value},W.ownsRow R e s u m xs->u.ownBlock≠some (w.heap.size+1)->(fw W (w.heap.size+1) x y z).ownsRow R e s u m xs:=λo aj=>eJ (eJ (eJ o aj) aj) aj;have C:Apart (.slice Y vs.length c2) (.slice a1 n1 c1):=λb hb ad=>f.dg.a12 b ad hb;refine⟨aB,cap',rfl,⟨yak aa ar.chg.size,by rw[e1];exact B.q0,by rw[e1];exact B.q1,by rw[e1];exact B.q2,by rw[e2];exact B.f0,by rw[e2];exact B.f1,by rw[e2];exact B.f2⟩,v,aB,cap',rfl,rfl,⟨?_,?_,?_,?_,f.dg.a13,?_,?_,?_⟩,?_,?_,?_⟩
 ·exact p (q f1.dg.r1 C) (λc=>hM (f.far _ (.inl c)))
 ·have ab:(vs++[v]).length=vs.length+1:=by simp
  rw[ab];exact p aZ (λc=>F (by simpa[Value.ownBlock] using c))
 ·exact p (q f1.dg.r3 f.dg.a23) (λc=>by have:=f.far _ (.inr (.inr c));omega)
 ·intro b hb ad;have:b=aB:=by simpa[Value.ownBlock] using ad.symm
  subst this;rcases t with c|c
  ·exact f.dg.a12 _ hb c
  have:=f.far _ (.inl hb);omega
 ·intro b hb ad;have:b=aB:=by simpa[Value.ownBlock] using hb.symm
  subst this;rcases t with c|c
  ·exact f.dg.a23 _ c ad
  have:=f.far _ (.inr (.inr ad));omega
 ·intro u aH;exact xde
 ·exact yao ci (yao ar.chg.size K.size)
 ·have av:=rW f1.rd ar.chg (by rintro b (c|c);exact c.elim;have:=(g b c).2;omega);exact av.keep K (.inl (hM av.lt))
 ·have G:=yao an.size k.size;refine⟨K.os.trans (ar.chg.os.trans (k.os.trans an.os)),K.tape.trans (ar.chg.tape.trans (k.tape.trans an.tape)),K.output.trans (ar.chg.output.trans (k.output.trans an.output)),yao G (yao ar.chg.size K.size),λb hb hn=>?_⟩;refine(K.block b (hM ar.chg.size) xaa).trans ?_;rw[ar.chg.block b xaa (by rintro (c|c);exact c;exact hn (.inr c)),k.block b (hM an.size) xaa];exact an.block b hb (λc=>hn (.inl xaa))
 rcases t with c|c
 ·exact .inl c
 exact .inr (hN an.size k.size)
theorem m.qad(h:Zp:=by
 obtain⟨g,cp,aK,bp,aR,be⟩:=ig t.dg.r2 rfl s;cases aK;exact qds):Zp:=h
theorem m.qdt(h:Zp:=by
 rcases ap.o with⟨ai,rfl,rfl⟩|⟨ai,rfl,rfl⟩|⟨ai,rfl,rfl⟩
 all_goals
  clear ap
  first|(have av:(nv bs i:Int)%16=9:=by omega)|(have av:(nv bs i:Int)%16=11:=by omega)|(have av:(nv bs i:Int)%16=13:=by omega)
  clear ai
  go_wp2_with fail
  obtain⟨_,bd,aL,aJ,_,_,_⟩:=au.o.bx
  go_region_with (first|(go_at_call 38;refine yaj (aI.o _ _ _ _ _ _ _ au.o HK.o _ ((eF _).trans aF)) ?_;rintro e ag ⟨aB,cap',rfl,aO,aA⟩;obtain⟨_,bm,ay,aW,bv,bA,bM⟩:=aO)|(go_at_call 40;refine yaj (gO _ _ _ _ _ _) ?_;rintro e ab ⟨rfl,aF⟩;obtain⟨_,aT,ao,aG,_,_,_⟩:=(au.o.keep ((eF _).trans aF)).bx))
  all_goals
   go_wp2_with fail
   obtain⟨bf,aP,aY⟩:=eZ ag (w.heap.size+1) _ _ _ bm ay aW (.slice a1 n1 c1) (hC aB (vs.length+1) cap') (.slice a3 n3 c3)
   exact yaz (v:=eV a1 n1 c1 (some ⟨aB,0,none⟩) (vs.length+1) cap' a3 n3 c3) (by simp[results,results42,go_sem,bf,aP,aY]) rfl aA):Zp:=h
open m in
theorem uC{w P a n cap}(f:DG w R (.slice a1 n1 c1) (.slice Y vs.length c2) (.slice a3 n3 c3) ins vs outs)(C:RdF w P a n cap i bs)(hP:P<R)(hn:vs.length<=100000)(ae:0<vs.length){m}(aq:(vd vs (nv bs (ni bs i)%vs.length)).len=m){o l}(N:(nv bs i%16=9/\o=6/\l=m)\/(nv bs i%16=11/\o=9/\l=1)\/(nv bs i%16=13/\o=13/\l=m)):
  Calls prog 42 #[eV a1 n1 c1 Y vs.length c2 a3 n3 c3,hB P] w (GwO w R P a n cap (ni bs (ni bs i)) bs (.slice a1 n1 c1) (.slice Y vs.length c2) (.slice a3 n3 c3) ins vs outs ⟨o,l,((nv bs (ni bs i)%vs.length:Nat):Int),0,0,0⟩):=by
 exact qac
end
section
theorem GrS.pick{W R P a n cap i bs Q a1 Y a3 n1 c1 c2 n3 c3 ins vs outs}(f:GrS W R P a n cap i bs Q (.slice a1 n1 c1) (.slice Y vs.length c2) (.slice a3 n3 c3) ins vs outs)(hn:vs.length<=100000)(q):
  Calls prog 74 #[eV a1 n1 c1 Y vs.length c2 a3 n3 c3,hD q,hB P] W λe W'=>e=.returned (hD (jS vs q (nv bs i)))/\GrS W' R P a n cap (ni bs i) bs Q (.slice a1 n1 c1) (.slice Y vs.length c2) (.slice a3 n3 c3) ins vs outs/\Kept P (P+1) W W':=
 (Pw f.dg.r2 rfl hn f.rd f.pb q).mono λ_ _ h=>⟨h.1,f.step h.2.1 h.2.2,h.2.2⟩
end
section
attribute[local go_sem] eG eE eD
variable{R P n cap i n1 c1 c2 n3 c3:Nat}{a a1 Y a3:Option Addr}{bs ins outs:List Int}{vs:List Vl}
theorem n.qad(h:Zp:=by
 obtain⟨g,cp,aK,bp,aR,be⟩:=ig t.dg.r2 rfl s;cases aK;exact qdj):Zp:=h
theorem n.qdk(h:Zp:=by
 exact xbg):Zp:=h
theorem n.qfj(h:Zp:=by
 have hd0:0<1+nv bs (ni bs (ni bs (ni bs i)))%4/\1+nv bs (ni bs (ni bs (ni bs i)))%4<=4:=xaa;generalize 1+nv bs (ni bs (ni bs (ni bs i)))%4=d at l hd0⊢;have ad:(nv bs (ni bs (ni bs (ni bs (ni bs i)))):Int)%(d:Int)=((nv bs (ni bs (ni bs (ni bs (ni bs i))))%d:Nat):Int):=by rw[Int.natCast_emod]
 have y:nv bs (ni bs (ni bs (ni bs (ni bs i))))%d<d:=Nat.mod_lt _ hd0.1;have b8:=fH C.ys (ni bs (ni bs (ni bs (ni bs i))));generalize nv bs (ni bs (ni bs (ni bs (ni bs i))))%d=c at ad y⊢;have bc:V ((nv bs (ni bs (ni bs (ni bs (ni bs i)))):Int).tmod (d:Int)=c):=(Int.tmod_eq_emod_of_nonneg xaa).trans ad;have c6:V _:=l;clear l ad;exact qac):Zp:=h
open n in
theorem Im{w}(f:DG w R (.slice a1 n1 c1) (.slice Y vs.length c2) (.slice a3 n3 c3) ins vs outs)(C:RdF w P a n cap i bs)(hP:P<R)(hn:vs.length<=100000)(ae:0<vs.length){m}(aq:(vd vs (nv bs (ni bs i)%vs.length)).len=m)(hb:0<=jS vs 1 (nv bs (ni bs (ni bs i))))(N:nv bs i%16=15):
  Calls prog 42 #[eV a1 n1 c1 Y vs.length c2 a3 n3 c3,hB P] w (GwO w R P a n cap (ni bs (ni bs (ni bs (ni bs (ni bs i))))) bs (.slice a1 n1 c1) (.slice Y vs.length c2) (.slice a3 n3 c3) ins vs outs ⟨12,((1+nv bs (ni bs (ni bs (ni bs i)))%4:Nat):Int),jS vs 1 (nv bs (ni bs (ni bs i))),0,((nv bs (ni bs (ni bs (ni bs (ni bs i))))%(1+nv bs (ni bs (ni bs (ni bs i)))%4):Nat):Int),0⟩):=by
 exact qfi
theorem aI.qay(h:Zp:=by
 rcases Nat.eq_zero_or_pos T with bi|bi
 case' inl=>have aa:(T:Int)<=0:=xaa
 case' inl=>clear bi
 case' inr=>have av:(nv bs i:Int)%16=0:=hM ap.o
 all_goals
  clear ap
  rcases bV.o with⟨b8,aK⟩|⟨b8,b5,aK⟩
 case' inl.inl|inr.inl=>
  have b5:(n1:Int)<=0:=xaa;clear b8
 case' inl.inr|inr.inr=>
  have HO:V (¬(nv bs (ni bs i):Int)%2=1):=by show ¬_;omega
  clear b5;go_wp2_with fail;refine yaj au.o.next ?_;rintro e W2 ⟨rfl,t,ah⟩;replace HK:V _:=HK.o.trans ah;replace au:V _:=t;clear t ah bd aL aJ;have c:=HO.o
 all_goals
  rw[<-aK]at au
  clear aK bV
  go_wp2_with fail
  refine yaj (N7 _ _ _ _ _ _ _ au.o.rd) ?_
  rintro e ci ⟨z,rfl,g,cR,cj,bS⟩
  have h:V (sv ⟨1,d,0,0,0,z⟩=⟨1,d,0,0,0,fb (dfV bs p)⟩):=by show _=_;rw[<-g,<-Bt];rfl
  clear g
  replace HK:V _:=HK.o.trans bS
  replace au:V _:=au.o.step cj bS
  clear cj bS
  go_wp2_with fail
  refine yaj au.o.next ?_
  rintro e a7 ⟨rfl,x,cc⟩
  replace HK:V _:=HK.o.trans cc
  replace au:V _:=x
  clear x cc
  have l:=c6.o
  have b7:V _:=cR
  clear cR
  obtain⟨_,bC,aN,a2,_,_,_⟩:=au.o.bx
  go_wp2_with fail
  refine yaj (aI.o _ _ ⟨1,d,0,0,0,z⟩ au.o HK.o _ hL b7.o) ?_
  rintro e ag ⟨aB,cap',rfl,aO,aA⟩
  obtain⟨_,bm,ay,aW,bv,bA,bM⟩:=aO
  go_wp2_with fail
  obtain⟨bf,aP,aY⟩:=eZ ag (w.heap.size+1) _ _ _ bm ay aW (.slice a1 n1 c1) (hC aB (T+1) cap') (.slice a3 n3 c3)
  exact yaz (v:=eV a1 n1 c1 (some ⟨aB,0,none⟩) (T+1) cap' a3 n3 c3) (by simp[results,results42,go_sem,bf,aP,aY]) rfl (h.o ▸ aA)):Zp:=h
open aI in
theorem uD{w}(f:DG w R (.slice a1 n1 c1) (.slice Y vs.length c2) (.slice a3 n3 c3) ins vs outs)(C:RdF w P a n cap i bs)(hP:P<R)(hn:vs.length<=100000){p}(aK:(n1=0/\p=ni bs i)\/(0<n1/\nv bs (ni bs i)%2≠1/\p=ni bs (ni bs i)))(N:nv bs i%16=0\/vs.length=0):
  Calls prog 42 #[eV a1 n1 c1 Y vs.length c2 a3 n3 c3,hB P] w (GwO w R P a n cap (ni bs (dfI bs p)) bs (.slice a1 n1 c1) (.slice Y vs.length c2) (.slice a3 n3 c3) ins vs outs ⟨1,((1+nv bs (dfI bs p)%4:Nat):Int),0,0,0,fb (dfV bs p)⟩):=by
 have l:(1:Int)+(nv bs (dfI bs p):Int)%4=((1+nv bs (dfI bs p)%4:Nat):Int):=xaa;have F:=fH C.ys (dfI bs p);generalize 1+nv bs (dfI bs p)%4=d at l⊢;have c6:V _:=l;have bV:V _:=aK;clear l aK;exact qax
