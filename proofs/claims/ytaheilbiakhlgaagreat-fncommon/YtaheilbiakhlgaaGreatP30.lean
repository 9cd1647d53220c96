import Derived.Test.YtaheilbiakhlgaaGreatP19
import Derived.Test.YtaheilbiakhlgaaGreatP12
namespace Go.Proofs.Z
open Tryz Go.RowKit Flt
set_option maxRecDepth 1000000
set_option maxHeartbeats 0
section
attribute[local go_sem] eF eE
def niN(bs:List Int)(i:Nat):Nat->Nat
 |0=>i
 |k+1=>ni bs (niN bs i k)
def dfI(bs:List Int)(i:Nat):Nat:=if nv bs i%16=10 then ni bs (ni bs i)else if 14<=nv bs i%16 then niN bs (ni bs i) 8 else ni bs i
def dfB(bs:List Int)(i:Nat):Nat->Int
 |0=>0
 |k+1=>IntKind.u64.wrap (IntKind.u64.wrap (dfB bs i k*256)+IntKind.u64.wrap (nv bs (niN bs i k):Int))
def dfV(bs:List Int)(i:Nat):Nat:=
 if nv bs i%16<6 then floatOfInt .f64 ((nv bs i:Int)/16)
 else if nv bs i%16<9 then Op.negFloat .f64 (floatOfInt .f64 ((nv bs i:Int)/16))
 else if nv bs i%16=9 then cop .quo (floatOfInt .f64 ((nv bs i:Int)/16)) 4620693217682128896
 else if nv bs i%16=10 then cop .quo (floatOfInt .f64 ((nv bs i:Int)/16)) (floatOfInt .f64 (wrap64 ((nv bs (ni bs i):Int)+1)))
 else if nv bs i%16=11 then[0,9223372036854775808,9218868437227405312,18442240474082181120,9221120237041090560,1,9223372036854775809,4503599627370496,9218868437227405311,18442240474082181119,4607182418800017408,13830554455654793216,4591870180066957722,4846369599423283200,4841369599423283202,20240225330731].getD (nv bs i/16) 0
 else if nv bs i%16=12 then cop .mul (floatOfInt .f64 ((nv bs i:Int)/16)) 9094988921128908188
 else if nv bs i%16=13 then cop .mul (Op.negFloat .f64 (floatOfInt .f64 ((nv bs i:Int)/16))) 2024
 else if nv bs i%16=14 then (bits .or .u64 (dfB bs (ni bs i) 8) (IntKind.u64.wrap (IntKind.u64.wrap (wrap64 ((nv bs i:Int)/16))*576460752303423488))).toNat
 else (dfB bs (ni bs i) 8).toNat
theorem Gf(bs i):∀k,0<=dfB bs i k/\dfB bs i k<18446744073709551616
 |0=>⟨Int.le_refl _,by show(0:Int)<_;decide⟩
 |k+1=>⟨wrap_u64_nonneg _,rO _⟩
def DfO(P:Nat)(a:Option Addr)(n cap i:Nat)(bs:List Int)(w:World)(x:Nat)(e:Ending)(w':World):Prop:=∃z,e=.returned (.float .f64 z)/\fb z=fb x/\z<18446744073709551616/\RdF w' P a n cap i bs/\Kept P (P+1) w w'
theorem RdF.drw{w P a n cap i bs}(f:RdF w P a n cap i bs)(m):RdF (w.drewN m) P a n cap i bs:=f.keep (eL 0 0 w m) yab
theorem Ns(w P a n cap i bs)(h:RdF w P a n cap i bs):
  Calls prog 65 #[hD P] w (DfO P a n cap (dfI bs i) bs w (dfV bs i)):=by
 have ap:=fU h.ys i;have bw:V _:=jg w P a n cap i bs h;have HD:V (dfI bs i=if nv bs i%16=10 then ni bs (ni bs i)else if 14<=nv bs i%16 then niN bs (ni bs i) 8 else ni bs i):=rfl;unfold DfO;have q:∃X,fb (dfV bs i)=X:=⟨_,rfl⟩
 obtain⟨X,aM⟩:=q;rw[aM];unfold dfV at aM;have b1:V _:=aM.symm;clear aM;generalize dfI bs i=p at HD⊢;generalize nv bs i=x at bw HD b1 ap;have f1:=@kL prog;have f2:=@mT prog;have f3:=s7;clear h;go_enter func65,ntmps65;go_wp2_with fail;refine yai bw.o ?_;rintro e aG ⟨rfl,B,ay,bQ⟩;clear bQ bw;have aQ:V (x%16≠10->x%16<14->p=ni bs i):=λc d=>by rw[HD.o,hG c,hG xaa]
 have g:V (x%16=10->p=ni bs (ni bs i)):=λc=>by rw[HD.o,hI c]
 have f:V (14<=x%16->p=niN bs (ni bs i) 8):=λc=>by rw[HD.o,hG xaa,hI c]
 clear HD;rcases Ju x with O|O|O|O|O|O|O|O|O
 ·have ab:=b1.o;rw[hI xaa]at ab;have bp:V _:=ab;clear b1 ab;have G:=aQ.o xaa xaa;clear aQ g f;subst G;have af:(x:Int)%16<6:=xaa;clear O;go_wp2;go_ret;exact⟨_,rfl,bp.o.symm,qC _,B,ay⟩
 ·have ab:=b1.o;rw[hG xaa,hI xaa]at ab;have bp:V _:=ab;clear b1 ab;have G:=aQ.o xaa xaa;clear aQ g f;subst G;have af:6<=(x:Int)%16:=xaa;have r:(x:Int)%16<9:=xaa;clear O;go_wp2;go_ret;exact⟨_,rfl,bp.o.symm,AB (qC _),B,ay⟩
 ·have ab:=b1.o;rw[hG xaa,hG xaa,hI xaa]at ab;have bp:V _:=ab;clear b1 ab;have G:=aQ.o xaa xaa;clear aQ g f;subst G;have af:(x:Int)%16=9:=xaa;exact xfo
 ·have ab:=b1.o;rw[hG xaa,hG xaa,hG xaa,hI xaa]at ab;have bp:V _:=ab;clear b1 ab;have G:=g.o O;clear aQ g f;subst G;have af:(x:Int)%16=10:=xaa;clear O;go_wp2_with fail;refine(jg _ _ _ _ _ _ _ B).mono ?_;rintro e ag ⟨rfl,U,aw,br⟩;clear br;go_wp2;go_ret;exact⟨_,rfl,(ie _ _ _ _).trans bp.o.symm,iB _ _ _ _,U.drw _,ay.trans (aw.trans (eL _ _ _ _))⟩
 ·have ab:=b1.o;rw[hG xaa,hG xaa,hG xaa,hG xaa,hI xaa]at ab;have bp:V _:=ab;clear b1 ab;have G:=aQ.o xaa xaa;clear aQ g f;subst G;have av:x=11\/x=27\/x=43\/x=59\/x=75\/x=91\/x=107\/x=123\/x=139\/x=155\/x=171\/x=187\/x=203\/x=219\/x=235\/x=251:=xaa;clear O ap;rcases av with rfl|rfl|rfl|rfl|rfl|rfl|rfl|rfl|rfl|rfl|rfl|rfl|rfl|rfl|rfl|rfl
  all_goals
   go_wp2
   go_ret
   refine⟨_,rfl,?_,?_,(B.keep (ez 0 0 _ _) yab).drw _,(ay.trans (ez _ _ _ _)).trans (eL _ _ _ _)⟩
   ·rw[bp.o];first|rfl|(rw[ie];rfl)|(rw[ie];decide)
   ·first|exact iB _ _ _ _|exact AB xaa|omega
 ·have ab:=b1.o;rw[hG xaa,hG xaa,hG xaa,hG xaa,hG xaa,hI xaa]at ab;have bp:V _:=ab;clear b1 ab;have G:=aQ.o xaa xaa;clear aQ g f;subst G;have af:(x:Int)%16=12:=xaa;exact xfo
 ·have ab:=b1.o;rw[hG xaa,hG xaa,hG xaa,hG xaa,hG xaa,hG xaa,hI xaa]at ab;have bp:V _:=ab;clear b1 ab;have G:=aQ.o xaa xaa;clear aQ g f;subst G;have af:(x:Int)%16=13:=xaa;exact xfo
 ·have ab:=b1.o;rw[hG xaa,hG xaa,hG xaa,hG xaa,hG xaa,hG xaa,hG xaa,hI xaa]at ab;have bp:V _:=ab;clear b1 ab;have G:=f.o xaa;clear aQ g f;have o:V _:=G;clear G;have HK:V ((x:Int)%16=14):=by show(x:Int)%16=14;omega
  have af:=HK.o;clear O;go_wp2_with fail;clear f1 f2 f3 af ap;go_loopw [9,10] (λb t W=>∃j:Nat,j<=8/\t=hF (j:Nat)/\b=.int .u64 (dfB bs (ni bs i) j)/\RdF W P a n cap (niN bs (ni bs i) j) bs/\Kept P (P+1) w W) (λ_ t _=>8-(intOf t).toNat)
  case atStart=>exact⟨0,by omega,rfl,rfl,B,ay⟩
  case round=>
   obtain⟨j,hj,rfl,rfl,C,aT⟩:=hrel;by_cases aB:j<8
   ·exact xgb
   have l:j=8:=xaa;have af:=HK.o;have aH:V _:=Gf bs (ni bs i) j;have HR:V _:=C;rw[l]at HR;rw[l]at aH⊢;clear C l hj;go_wp2_with fail;obtain⟨am,cR,aN⟩:=ML (dfB bs (ni bs i) 8) (IntKind.u64.wrap (IntKind.u64.wrap (wrap64 ((x:Int)/16))*576460752303423488)) aH.o.1 aH.o.2 (wrap_u64_nonneg _) (rO _);have bV:V (fb am=X):=by show _=_;rw[bp.o,cR];rfl
   rw[cR];refine(yG am _ aN).mono ?_;rintro e ag ⟨y,rfl,bS,bi,m,rfl⟩;replace bV:V _:=bS.trans bV.o;clear cR aN bS af;exact xjh
 have ab:=b1.o;rw[hG xaa,hG xaa,hG xaa,hG xaa,hG xaa,hG xaa,hG xaa,hG xaa]at ab;have bp:V _:=ab;clear b1 ab;have G:=f.o xaa;clear aQ g f;have o:V _:=G;clear G;have HK:V ((x:Int)%16=15):=by show(x:Int)%16=15;omega
 have af:=HK.o;clear O;go_wp2_with fail;clear f1 f2 f3 af ap;go_loopw [9,10] (λb t W=>∃j:Nat,j<=8/\t=hF (j:Nat)/\b=.int .u64 (dfB bs (ni bs i) j)/\RdF W P a n cap (niN bs (ni bs i) j) bs/\Kept P (P+1) w W) (λ_ t _=>8-(intOf t).toNat)
 case atStart=>exact⟨0,by omega,rfl,rfl,B,ay⟩
 case round=>
  obtain⟨j,hj,rfl,rfl,C,aT⟩:=hrel;by_cases aB:j<8
  ·exact xgb
  have l:j=8:=xaa;have af:=HK.o;have aH:V _:=Gf bs (ni bs i) j;have HR:V _:=C;rw[l]at HR;rw[l]at aH⊢;clear C l hj;go_wp2_with fail;obtain⟨am,cR⟩:=Int.eq_ofNat_of_zero_le aH.o.1;have aN:am<18446744073709551616:=hO aH.o.2
  have bV:V (fb am=X):=by show _=_;rw[bp.o,cR];rfl
  rw[cR];clear cR;refine(yG am _ aN).mono ?_;rintro e ag ⟨y,rfl,bS,bi,m,rfl⟩;replace bV:V _:=bS.trans bV.o;clear bS af;exact xjh
end
section
attribute[local go_sem] eF eE eD
variable{J:World}{I l h i:Nat}{u1 u2 u3:Value}{ins outs bs:List Int}{vs:List Vl}
structure DG(w:World)(B:Nat)(u1 u2 u3:Value)(ins:List Int)(vs:List Vl)(outs:List Int):Prop where
 r1:w.ownsRow B 3 1 u1 ins.length (ins.map (Value.int .i64))
 r2:w.ownsRow B 40 6 u2 vs.length (fW vs)
 r3:w.ownsRow B 3 1 u3 outs.length (outs.map (Value.int .i64))
 a12:Apart u1 u2
 a13:Apart u1 u3
 a23:Apart u2 u3
 k:∀v∈vs,v.k<18446744073709551616
 sz:B<=w.heap.size
theorem DG.kept{w}(f:DG w I u1 u2 u3 ins vs outs)(k:Kept l h w J)(ba:h<=I):DG J I u1 u2 u3 ins vs outs:=
 ⟨fY f.r1 k λ_ e=>.inr (yan ba (eI f.r1 e).1),fY f.r2 k λ_ e=>.inr (yan ba (eI f.r2 e).1),fY f.r3 k λ_ e=>.inr (yan ba (eI f.r3 e).1),f.a12,f.a13,f.a23,f.k,yan f.sz k.size⟩
theorem DG.keep{w}(f:DG w I u1 u2 u3 ins vs outs)(k:Kept 0 0 w J):DG J I u1 u2 u3 ins vs outs:=f.kept k (Nat.zero_le _)
theorem RdF.keep0{w P a n cap}(f:RdF w P a n cap i bs)(k:Kept 0 0 w J):RdF J P a n cap i bs:=f.keep k yab
theorem ft{w}(k:Kept 0 0 w J):Kept l h w J:=⟨k.os,k.tape,k.output,k.size,λi hi _=>k.block i hi xaa⟩
theorem RB.kept{W W' p a9 N aD}(t:RB W p a9 N aD)(k:Kept l h W W')(aF:p<l\/h<=p):RB W' p a9 N aD:=
 have e:∀o,W'.cell? ⟨p,o,none⟩=W.cell? ⟨p,o,none⟩:=λo=>k.cell (p:=⟨p,o,none⟩) t.sz (by show ¬(l<=p/\p<h);omega)
 have j:∀o,W'.frozen? ⟨p,o,none⟩=W.frozen? ⟨p,o,none⟩:=λo=>k.frozen (p:=⟨p,o,none⟩) t.sz (by show ¬(l<=p/\p<h);omega)
 ⟨yaj t.sz k.size,hR e t.q0,hR e t.q1,hR e t.q2,hR j t.f0,hR j t.f1,hR j t.f2⟩
def nQ(vs:List Vl)(n:Int)(fr:Nat):Nat->Nat->Int
 |0,_=>-1
 |m+1,k=>if (vs.getD ((fr+k)%vs.length) hK).len=n then (((fr+k)%vs.length:Nat):Int)else nQ vs n fr m (k+1)
def jU(vs:List Vl)(n:Int)(fr:Nat):Int:=nQ vs n fr vs.length 0
theorem hH{W n u}(h:W.ownsRow I 40 6 u n (fW vs))(ah:vs.length=n){k}(O:k<n):∃g cap,u=hE g n cap/\I<=g/\g<W.heap.size/\At W g (k*6) (vs.getD k hK):=by
 obtain⟨g,cap,e,B,U,_,a6⟩:=mb h xaa ah;exact⟨g,cap,e,B,U,a6.at_ k O⟩
theorem Pd{w P a a1 Z a3 n cap Y c1 ab c2 aa c3}(U:w.ownsRow I 40 6 (.slice Z ab c2) ab (fW vs))(ah:vs.length=ab)(hn:ab<=100000)(C:RdF w P a n cap i bs)(hP:P<I)(q):
  Calls prog 66 #[eX a1 Y c1 Z ab c2 a3 aa c3,hF q,hD P] w λe J=>e=.returned (hF (jU vs q (nv bs i)))/\RdF J P a n cap (ni bs i) bs/\Kept P (P+1) w J:=by
 have H:=ez 0 0 w (eZ a1 Y c1 Z ab c2 a3 aa c3);have bC:=fU C.ys i;have aH:V _:=fO w (.slice a1 Y c1) (.slice Z ab c2) (.slice a3 aa c3);have bw:V _:=jg _ P a n cap i bs (C.keep0 H);have HK:V _:=H;have HO:V _:=eW U H;have ae:V (jU vs q (nv bs i)=nQ vs q (nv bs i) (ab-0) 0):=by show nQ vs q (nv bs i) vs.length 0=_;rw[ah];rfl
 have cq:V (P≠w.heap.size):=by have:=C.lt;show P≠_;omega
 generalize jU vs q (nv bs i)=r at ae⊢;generalize nv bs i=x at bw ae bC;have HL:V (vs.length=ab):=ah;clear H U C ah;go_enter func66,ntmps66;go_wp2_with fail;refine yai bw.o ?_;rintro e ag ⟨rfl,(bP:V _),an,b4⟩;clear b4;have bN:V (Kept P (P+1) w ag):=(ft HK.o).trans an;have af:V _:=fY HO.o an λ_ e=>.inr (hO ((eI HO.o e).1));have bg:V (∀o,ag.cell? ⟨w.heap.size,o,none⟩=(w.alloc (eZ a1 Y c1 Z ab c2 a3 aa c3)).cell? ⟨w.heap.size,o,none⟩):=λo=>an.cell (p:=⟨w.heap.size,o,none⟩) xac (by show ¬(P<=w.heap.size/\w.heap.size<P+1);have:=cq.o;omega);have aK:ag.cell? ⟨w.heap.size,1,none⟩=some (.slice Z ab c2):=by rw[bg.o];obtain⟨_,_,aS,_⟩:=aH.o;exact aS
 clear an HK HO bw bg aH;go_wp2_with fail;go_loopw [8] (λt W=>∃k:Nat,k<=ab/\t=hF k/\V (r=nQ vs q x (ab-k) k)/\W=ag) (λt _=>ab-(intOf t).toNat)
 case atStart=>exact⟨0,Nat.zero_le _,rfl,ae.o,rfl⟩
 case round=>
  obtain⟨k,O,rfl,av,rfl⟩:=hrel;by_cases aB:k<ab
  ·have aw:(x+k)%ab<ab:=Nat.mod_lt _ xaa;obtain⟨g,b0,aU,aY,bj,bm⟩:=hH af.o HL.o aw;cases aU;have aR:=bm.c1;have p:((x:Int)+k)%(ab:Int)=(((x+k)%ab:Nat):Int):=by rw[Int.natCast_emod,Int.natCast_add]
   have HR:V (r=if (vs.getD ((x+k)%ab) hK).len=q then (((x+k)%ab:Nat):Int)else nQ vs q x (ab-(k+1)) (k+1)):=by
    have e:ab-k=(ab-(k+1))+1:=xaa;have:=av.o;rw[e,nQ,HL.o]at this;exact this
   clear av bm;generalize (vs.getD ((x+k)%ab) hK).len=z at aR HR;generalize (x+k)%ab=j at aw aR HR p;by_cases bz:z=q
   ·subst bz;have m:V (r=(j:Int)):=HR.o.trans (hI rfl);clear HR ae;go_wp2;go_ret;exact⟨by rw[m.o,<-p];rfl,bP.o,bN.o⟩
   have m:V _:=HR.o.trans (hG bz);clear HR ae;go_wp2;go_roundw;exact⟨k+1,by omega,by go_num,m.o,trivial⟩;simp[intOf];omega
  have bZ:k=ab:=xaa;have m:V (r=-1):=by have:=av.o;rw[bZ,Nat.sub_self,nQ]at this;exact this
  clear av ae bZ;go_wp2;go_ret;exact⟨hU m.o,bP.o,bN.o⟩
theorem BI{w P a n cap}(h:RdF w P a n cap i bs):
  Calls prog 38 #[hD P] w λe J=>e=.returned (hF ((bs.length:Int)-i))/\Kept 0 0 w J:=by
 have ai:=h.c0;have B:=h.c1;have hn:=h.small;have hi:=h.hi;have ah:V (n=bs.length):=h.ys.len.symm;clear h;go_enter func38,ntmps38;go_wp2;go_quiet (fail)
 go_wp2;go_ret;exact⟨by rw[<-ah.o];rfl,eL _ _ _ _⟩
variable{w W W':World}{P n cap i nE cE:Nat}{a aE:Option Addr}{bs:List Int}{env:List (List UInt8×Int)}
structure En(w:World)(P:Nat)(aE:Option Addr)(nE:Nat)(env:List (List UInt8×Int)):Prop where
 len:env.length=nE
 le:nE<=100
 at_:∀k,k<nE->∃g,aE=some ⟨g,0,none⟩/\P<g/\g<w.heap.size/\w.cell? ⟨g,k*2,none⟩=some (eO (env.getD k ([],0)).1)/\w.cell? ⟨g,k*2+1,none⟩=some (.int .i64 (env.getD k ([],0)).2)
theorem En.keep(f:En w P aE nE env)(k:Kept P (P+1) w W):En W P aE nE env:=
 ⟨f.len,f.le,λj hj=>by
  obtain⟨g,e,B,U,c0,c1⟩:=f.at_ j hj
  exact⟨g,e,B,yaj U k.size,(k.cell U (by show ¬(P<=g/\g<P+1);omega)).trans c0,(k.cell U (by show ¬(P<=g/\g<P+1);omega)).trans c1⟩⟩
theorem En.keep0(f:En w P aE nE env)(k:Kept 0 0 w W):En W P aE nE env:=f.keep (ft k)
def ofG(env:List (List UInt8×Int))(q:Int)(c:Nat):Nat->Nat->List UInt8
 |0,_=>[]
 |m+1,k=>if (env.getD ((k+c)%env.length) ([],0)).2=q then (env.getD ((k+c)%env.length) ([],0)).1 else ofG env q c m (k+1)
def ofM(env:List (List UInt8×Int))(q:Int)(c:Nat):List UInt8:=ofG env q c env.length 0
theorem Nt(f:En w P aE nE env)(C:RdF w P a n cap i bs)(q):
  Calls prog 108 #[.slice aE nE cE,hF q,hD P] w λe J=>e=.returned (eO (ofM env q (nv bs i)))/\RdF J P a n cap (ni bs i) bs/\Kept P (P+1) w J:=by
 have bC:=fU C.ys i;have bw:V _:=jg w P a n _ i _ C;have aL:V _:=f;have ae:V (ofM env q (nv bs i)=ofG env q (nv bs i) (nE-0) 0):=by show ofG _ _ _ _ _=_;rw[f.len];rfl
 have hn:=f.le;generalize ofM _ q _=r at ae⊢;generalize nv _ i=x at bw ae bC;clear f C;go_enter func108,ntmps108;go_wp2_with fail;refine yai bw.o ?_;rintro e ag ⟨rfl,(bP:V _),(bN:V _),b4⟩;clear b4 bw;have aF:V _:=aL.o.keep bN.o;clear aL;go_wp2_with fail;go_loopw [8] (λt W=>∃k:Nat,k<=nE/\t=hF k/\V (r=ofG env q x (nE-k) k)/\V (Kept 0 0 ag W)) (λt _=>nE-(intOf t).toNat)
 case atStart=>exact⟨0,Nat.zero_le _,rfl,ae.o,hN⟩
 case round=>
  obtain⟨k,O,rfl,av,ar⟩:=hrel;by_cases aB:k<nE
  ·have aw:(k+x)%nE<nE:=Nat.mod_lt _ xaa;obtain⟨g,aU,aY,bj,bd,aR⟩:=(aF.o.keep0 ar.o).at_ _ aw;have p:(k+(x:Int))%nE=((k+x)%nE:Nat):=by rw[Int.natCast_emod,Int.natCast_add]
   have HR:V (r=if (env.getD ((k+x)%nE) ([],0)).2=q then (env.getD ((k+x)%nE) ([],0)).1 else ofG env q x (nE-(k+1)) (k+1)):=by
    have e:nE-k=(nE-(k+1))+1:=xaa;have:=av.o;rw[e,ofG,aF.o.len]at this;exact this
   clear av;subst aU;generalize env.getD _ _=z at bd aR HR;generalize (k+x)%nE=j at aw bd aR HR p;obtain⟨aS,bb⟩:=z;simp only at bd aR HR;have y:V (Kept 0 0 _ (wr.alloc (.cells #[eO aS,hF bb] 100))):=ar.o.trans (ez 0 0 _ _);by_cases bz:bb=q
   ·subst bz;have m:V _:=HR.o.trans (hI rfl);clear HR ae;go_wp2;go_ret;exact⟨hU m.o,bP.o.keep0 y.o,bN.o.trans (ft y.o)⟩
   have m:V _:=HR.o.trans (hG bz);clear HR ae;go_wp2;go_roundw;exact⟨k+1,by omega,by go_num,m.o,y⟩;simp[intOf];omega
  have bZ:k=nE:=xaa;have m:V (r=[]):=by have:=av.o;rw[bZ,Nat.sub_self,ofG]at this;exact this
  clear av ae bZ;go_wp2;go_ret;exact⟨hU m.o,bP.o.keep0 ar.o,bN.o.trans (ft ar.o)⟩
structure Xd where
 w:World
 P:Nat
 n:Nat
 cap:Nat
 nE:Nat
 cE:Nat
 a:Option Addr
 aE:Option Addr
structure Sd(X:Xd)(env:List (List UInt8×Int))(bs:List Int)(i:Nat)(W:World):Prop where
 rd:RdF W X.P X.a X.n X.cap i bs
 en:En W X.P X.aE X.nE env
 kp:Kept X.P (X.P+1) X.w W
variable{X:Xd}{W W':World}{env:List (List UInt8×Int)}{bs:List Int}{i j:Nat}
theorem Sd.go(h:Sd X env bs i W)(r:RdF W' X.P X.a X.n X.cap j bs)(k:Kept X.P (X.P+1) W W'):Sd X env bs j W':=⟨r,h.en.keep k,h.kp.trans k⟩
theorem Sd.keep0(h:Sd X env bs i W)(k:Kept 0 0 W W'):Sd X env bs i W':=h.go (h.rd.keep0 k) (ft k)
def Tx(X:Xd)(env:List (List UInt8×Int))(bs:List Int)(j:Nat)(v:Value)(e:Ending)(w':World):Prop:=e=.returned v/\Sd X env bs j w'
theorem nxS(h:Sd X env bs i W):Calls prog 32 #[hD X.P] W (Tx X env bs (ni bs i) (hF (nv bs i:Int))):=
 (jg W X.P X.a X.n X.cap i bs h.rd).mono λ_ _ ⟨e,r,k,_⟩=>⟨e,h.go r k⟩
theorem lfS(h:Sd X env bs i W):Calls prog 38 #[hD X.P] W (Tx X env bs i (hF ((bs.length:Int)-i))):=
 (BI h.rd).mono λ_ _ ⟨e,k⟩=>⟨e,h.keep0 k⟩
theorem olS(q)(h:Sd X env bs i W):Calls prog 108 #[.slice X.aE X.nE X.cE,hF q,hD X.P] W (Tx X env bs (ni bs i) (eO (ofM env q (nv bs i)))):=
 (Nt h.en h.rd q).mono λ_ _ ⟨e,r,k⟩=>⟨e,h.go r k⟩
theorem nbS(h:Sd X env bs i W):Calls prog 145 #[hD X.P] W (Tx X env bs (ni bs i) (eO (l3n (nv bs i)))):=
 (AC W X.P X.a X.n X.cap i bs h.rd).mono λ_ _ ⟨e,r,k,_⟩=>⟨e,h.go r k⟩
theorem dcS{q:Nat}(ao:q<=1000)(h:Sd X env bs i W):Calls prog 63 #[hF q] W (Tx X env bs i (eO (gY q))):=
 (yC q q yad xaa W).mono λ_ _ ⟨e,a0⟩=>⟨e,a0 ▸ h⟩
theorem sz2{x y:ByteArray}{G:Prop}(h:x.size+y.size<=1000000)(k:¬9223372036854775807<x.size+y.size->x.size<=1000000->G):G:=k xaa xaa
theorem Nu(b3:∀x∈env,x.1.length<=5)(q c):(ofM env q c).length<=5:=by
 have h:∀m k,(ofG env q c m k).length<=5:=by
  intro m;induction m with
  |zero=>exact λ_=>by simp[ofG]
  |succ m al=>
   intro k;rw[ofG];split
   ·rw[yah];cases e:env[(k+c)%env.length]? with
    |none=>simp
    |some x=>exact b3 x (List.mem_of_getElem? e)
   exact al _
 exact h _ _
theorem Nv{x}(h:x<256):(l3n x).length<=300:=by
 have:=jR x;have:=jR (x/10%6);unfold l3n;(repeat' split)<;>simp<;>omega
def Dr(env:List (List UInt8×Int))(bs:List Int)(i f:Nat)(xs:Xd->Array Value)(m:Nat)(s:ByteArray)(j:Nat):Prop:=s.size<=m/\∀X W,V (Sd X env bs i W)->Calls prog f (xs X) W (Tx X env bs j (.string s))
theorem gD{f m:Nat}{xs s}(bz:s.size<=m)(aw:m<=1000000)(h:s.size<=1000000->∀X W,V (Sd X env bs i W)->Calls prog f (xs X) W (Tx X env bs j (.string s))):Dr env bs i f xs m s j:=⟨bz,h (yan bz aw)⟩
theorem olD(b3:∀x∈env,x.1.length<=5)(q i):∃s j,Dr env bs i 108 (λX=>#[.slice X.aE X.nE X.cE,hF q,hD X.P]) 5 s j:=⟨_,_,by rw[gu];exact Nu b3 q _,λ_ _ h=>olS q h.o⟩
theorem nbD(hb:∀i,nv bs i<256)(i):∃s j,Dr env bs i 145 (λX=>#[hD X.P]) 300 s j:=⟨_,_,by rw[gu];exact Nv (hb i),λ_ _ h=>nbS h.o⟩
theorem dcD{q}(ai:0<=q)(h3:q<=3):∃s,∀i,Dr env bs i 63 (λ_=>#[hF q]) 5 s i:=by
 obtain⟨q,rfl⟩:=Int.eq_ofNat_of_zero_le ai;exact⟨_,λ_=>⟨by rw[gu];have:=jR q;omega,λ_ _ h=>dcS xaa h.o⟩⟩
theorem uq(s:ByteArray):s.toList=[]/\s.toList.isEmpty=true\/¬s.toList=[]/\s.toList.isEmpty=false:=by
 by_cases h:s.toList=[]
 ·exact .inl ⟨h,hU h⟩
 exact .inr ⟨h,by simp[h]⟩
theorem Ly(b3:∀x∈env,x.1.length<=5)(hb:∀i,nv bs i<256)(q)(ao:1<=q/\q<=3)(i):∃s j,Dr env bs i 107 (λX=>#[.slice X.aE X.nE X.cE,hF q,hD X.P]) 1000 s j:=by
 obtain⟨aW,b8,A⟩:=olD (bs:=bs) b3 q i;obtain⟨aq,Q,I⟩:=nbD (env:=env) hb (ni bs b8);obtain⟨aN,D⟩:=dcD (env:=env) (bs:=bs) (by omega:0<=q) ao.2;have ai:=A.1;have B:=I.1;have U:=(D 0).1;rcases uq aW with⟨bf,aX⟩|⟨bf,aX⟩<;>rcases (by omega:q=1\/¬q=1) with rfl|ah<;>rcases (by omega:(nv bs b8:Int)%4=0\/0<(nv bs b8:Int)%4) with aO|aO
 ·exact xbp
 ·exact xbp
 ·exact xbd
 ·exact xbd
 ·exact xbp
 ·exact xde
 ·exact xbd
 exact xde
