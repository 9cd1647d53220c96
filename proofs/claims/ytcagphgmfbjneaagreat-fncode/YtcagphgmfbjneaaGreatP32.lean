import Derived.Test.YtcagphgmfbjneaaGreatP24
namespace Go.Proofs.Z
variable{Zp:Prop}
open Tryz Go.RowKit Flt
set_option maxRecDepth 1000000
set_option maxHeartbeats 0
section
attribute[local go_sem] eE eD
def niN(bs:List Int)(i:Nat):Nat->Nat
 |0=>i
 |k+1=>ni bs (niN bs i k)
def dfI(bs:List Int)(i:Nat):Nat:=if nv bs i%16=10 then ni bs (ni bs i)else if 14<=nv bs i%16 then niN bs (ni bs i) 8 else ni bs i
def dfB(bs:List Int)(i:Nat):Nat->Int
 |0=>0
 |k+1=>IntKind.u64.wrap (IntKind.u64.wrap (dfB bs i k*256)+IntKind.u64.wrap (nv bs (niN bs i k):Int))
def dfV(bs:List Int)(i:Nat):Nat:=
 if nv bs i%16<6 then floatOfInt .f64 ((nv bs i:Int)/16)
 else if nv bs i%16<9 then Op.negFloat .f64 (floatOfInt .f64 ((nv bs i:Int)/16))
 else if nv bs i%16=9 then cop .quo (floatOfInt .f64 ((nv bs i:Int)/16)) 4620693217682128896
 else if nv bs i%16=10 then cop .quo (floatOfInt .f64 ((nv bs i:Int)/16)) (floatOfInt .f64 (wrap64 ((nv bs (ni bs i):Int)+1)))
 else if nv bs i%16=11 then[0,9223372036854775808,9218868437227405312,18442240474082181120,9221120237041090560,1,9223372036854775809,4503599627370496,9218868437227405311,18442240474082181119,4607182418800017408,13830554455654793216,4591870180066957722,4846369599423283200,4841369599423283202,20240225330731].getD (nv bs i/16) 0
 else if nv bs i%16=12 then cop .mul (floatOfInt .f64 ((nv bs i:Int)/16)) 9094988921128908188
 else if nv bs i%16=13 then cop .mul (Op.negFloat .f64 (floatOfInt .f64 ((nv bs i:Int)/16))) 2024
 else if nv bs i%16=14 then ffV (bits .or .u64 (dfB bs (ni bs i) 8) (IntKind.u64.wrap (IntKind.u64.wrap (wrap64 ((nv bs i:Int)/16))*576460752303423488))).toNat
 else ffV (dfB bs (ni bs i) 8).toNat
theorem Ig(bs i):∀k,0<=dfB bs i k/\dfB bs i k<18446744073709551616
 |0=>⟨Int.le_refl _,by show(0:Int)<_;decide⟩
 |k+1=>⟨wrap_u64_nonneg _,se _⟩
def DfO(P:Nat)(a:Option Addr)(n cap i:Nat)(bs:List Int)(w:World)(x:Nat)(e:Ending)(w':World):Prop:=∃z,e=.returned (.float .f64 z)/\fb z=fb x/\z<18446744073709551616/\RdF w' P a n cap i bs/\Kept P (P+1) w w'
theorem RdF.drw{w P a n cap i bs}(f:RdF w P a n cap i bs)(m):RdF (w.drewN m) P a n cap i bs:=f.keep (eH 0 0 w m) yab
theorem OL(w P a n cap i bs)(h:RdF w P a n cap i bs):
  Calls prog 91 #[hZ P] w (DfO P a n cap (dfI bs i) bs w (dfV bs i)):=by
 have ap:=fp h.ys i;have HN:V _:=iw w P a n cap i bs h;have HD:V (dfI bs i=if nv bs i%16=10 then ni bs (ni bs i)else if 14<=nv bs i%16 then niN bs (ni bs i) 8 else ni bs i):=rfl;unfold DfO;have v:∃u,fb (dfV bs i)=u:=⟨_,rfl⟩
 obtain⟨u,aN⟩:=v;rw[aN];unfold dfV at aN;have bX:V _:=aN.symm;clear aN;generalize dfI bs i=r at HD⊢;generalize nv bs i=x at HN HD bX ap;have f1:=@kr prog;have f2:=@l9 prog;have f3:=lT;clear h;go_enter func91,ntmps91;go_wp2_with fail;refine yaj HN.o ?_;rintro e aH ⟨rfl,F,ax,hz1⟩;clear hz1 HN;have bZ:V (x%16≠10->x%16<14->r=ni bs i):=λc d=>by rw[HD.o,h6 c,h6 xaa]
 have g:V (x%16=10->r=ni bs (ni bs i)):=λc=>by rw[HD.o,h7 c]
 have f:V (14<=x%16->r=niN bs (ni bs i) 8):=λc=>by rw[HD.o,h6 xaa,h7 c]
 clear HD;rcases JZ x with O|O|O|O|O|O|O|O|O
 ·have ae:=bX.o;rw[h7 xaa]at ae;have bE:V _:=ae;clear bX ae;have aO:=bZ.o xaa xaa;clear bZ g f;subst aO;have G:(x:Int)%16<6:=xaa;clear O;go_wp2;go_ret;exact⟨_,rfl,bE.o.symm,qI _,F,ax⟩
 ·have ae:=bX.o;rw[h6 xaa,h7 xaa]at ae;have bE:V _:=ae;clear bX ae;have aO:=bZ.o xaa xaa;clear bZ g f;subst aO;have G:6<=(x:Int)%16:=xaa;have z:(x:Int)%16<9:=xaa;clear O;go_wp2;go_ret;exact⟨_,rfl,bE.o.symm,nh (qI _),F,ax⟩
 ·have ae:=bX.o;rw[h6 xaa,h6 xaa,h7 xaa]at ae;have bE:V _:=ae;clear bX ae;have aO:=bZ.o xaa xaa;clear bZ g f;subst aO;have G:(x:Int)%16=9:=xaa;exact xeg
 ·have ae:=bX.o;rw[h6 xaa,h6 xaa,h6 xaa,h7 xaa]at ae;have bE:V _:=ae;clear bX ae;have aO:=g.o O;clear bZ g f;subst aO;have G:(x:Int)%16=10:=xaa;clear O;go_wp2_with fail;refine(iw _ _ _ _ _ _ _ F).mono ?_;rintro e am ⟨rfl,h2,ab,hz2⟩;clear hz2;go_wp2;go_ret;exact⟨_,rfl,(fV _ _ _ _).trans bE.o.symm,gF _ _ _ _,h2.drw _,ax.trans (ab.trans (eH _ _ _ _))⟩
 ·have ae:=bX.o;rw[h6 xaa,h6 xaa,h6 xaa,h6 xaa,h7 xaa]at ae;have bE:V _:=ae;clear bX ae;have aO:=bZ.o xaa xaa;clear bZ g f;subst aO;have aj:x=11\/x=27\/x=43\/x=59\/x=75\/x=91\/x=107\/x=123\/x=139\/x=155\/x=171\/x=187\/x=203\/x=219\/x=235\/x=251:=xaa;clear O ap;rcases aj with rfl|rfl|rfl|rfl|rfl|rfl|rfl|rfl|rfl|rfl|rfl|rfl|rfl|rfl|rfl|rfl
  all_goals
   go_wp2
   go_ret
   refine⟨_,rfl,?_,?_,(F.keep (eA 0 0 _ _) yab).drw _,(ax.trans (eA _ _ _ _)).trans (eH _ _ _ _)⟩
   ·rw[bE.o];first|rfl|(rw[fV];rfl)|(rw[fV];decide)
   ·first|exact gF _ _ _ _|exact nh xaa|omega
 ·have ae:=bX.o;rw[h6 xaa,h6 xaa,h6 xaa,h6 xaa,h6 xaa,h7 xaa]at ae;have bE:V _:=ae;clear bX ae;have aO:=bZ.o xaa xaa;clear bZ g f;subst aO;have G:(x:Int)%16=12:=xaa;exact xeg
 ·have ae:=bX.o;rw[h6 xaa,h6 xaa,h6 xaa,h6 xaa,h6 xaa,h6 xaa,h7 xaa]at ae;have bE:V _:=ae;clear bX ae;have aO:=bZ.o xaa xaa;clear bZ g f;subst aO;have G:(x:Int)%16=13:=xaa;exact xeg
 ·have ae:=bX.o;rw[h6 xaa,h6 xaa,h6 xaa,h6 xaa,h6 xaa,h6 xaa,h6 xaa,h7 xaa]at ae;have bE:V _:=ae;clear bX ae;have aO:=f.o xaa;clear bZ g f;have l:V _:=aO;clear aO;have HK:V ((x:Int)%16=14):=by show(x:Int)%16=14;omega
  have G:=HK.o;clear O;go_wp2_with fail;clear f1 f2 f3 G ap;go_loopw [9,10] (λb t W=>∃j:Nat,j<=8/\t=h1 (j:Nat)/\b=.int .u64 (dfB bs (ni bs i) j)/\RdF W P a n cap (niN bs (ni bs i) j) bs/\Kept P (P+1) w W) (λ_ t _=>8-(intOf t).toNat)
  case atStart=>exact⟨0,by omega,rfl,rfl,F,ax⟩
  case round=>
   obtain⟨j,hj,rfl,rfl,K,a7⟩:=hrel;by_cases hlt:j<8
   ·exact xer
   have k:j=8:=xaa;have G:=HK.o;have T:V _:=Ig bs (ni bs i) j;have HR:V _:=K;rw[k]at HR;rw[k]at T⊢;clear K k hj;go_wp2_with fail;obtain⟨an,C,cr⟩:=NB (dfB bs (ni bs i) 8) (IntKind.u64.wrap (IntKind.u64.wrap (wrap64 ((x:Int)/16))*576460752303423488)) T.o.1 T.o.2 (wrap_u64_nonneg _) (se _);have aX:V (fb (ffV an)=u):=by show _=_;rw[bE.o,C];rfl
   rw[C];refine(vZ an _ cr).mono ?_;rintro e am ⟨y,rfl,bp,bc,m,rfl⟩;replace aX:V _:=bp.trans aX.o;clear C cr bp G;exact xhx
 have ae:=bX.o;rw[h6 xaa,h6 xaa,h6 xaa,h6 xaa,h6 xaa,h6 xaa,h6 xaa,h6 xaa]at ae;have bE:V _:=ae;clear bX ae;have aO:=f.o xaa;clear bZ g f;have l:V _:=aO;clear aO;have HK:V ((x:Int)%16=15):=by show(x:Int)%16=15;omega
 have G:=HK.o;clear O;go_wp2_with fail;clear f1 f2 f3 G ap;go_loopw [9,10] (λb t W=>∃j:Nat,j<=8/\t=h1 (j:Nat)/\b=.int .u64 (dfB bs (ni bs i) j)/\RdF W P a n cap (niN bs (ni bs i) j) bs/\Kept P (P+1) w W) (λ_ t _=>8-(intOf t).toNat)
 case atStart=>exact⟨0,by omega,rfl,rfl,F,ax⟩
 case round=>
  obtain⟨j,hj,rfl,rfl,K,a7⟩:=hrel;by_cases hlt:j<8
  ·exact xer
  have k:j=8:=xaa;have G:=HK.o;have T:V _:=Ig bs (ni bs i) j;have HR:V _:=K;rw[k]at HR;rw[k]at T⊢;clear K k hj;go_wp2_with fail;obtain⟨an,C⟩:=Int.eq_ofNat_of_zero_le T.o.1;have cr:an<18446744073709551616:=ix T.o.2
  have aX:V (fb (ffV an)=u):=by show _=_;rw[bE.o,C];rfl
  rw[C];clear C;refine(vZ an _ cr).mono ?_;rintro e am ⟨y,rfl,bp,bc,m,rfl⟩;replace aX:V _:=bp.trans aX.o;clear bp G;exact xhx
end
section
attribute[local go_sem] eE eD eC
variable{w H B:World}{I P n l cap h i Q Z c1 c2 ab c3:Nat}{a a1 J a3:Option Addr}{u1 u2 u3:Value}{bs ins outs:List Int}{vs:List Vl}
structure DG(w:World)(B:Nat)(u1 u2 u3:Value)(ins:List Int)(vs:List Vl)(outs:List Int):Prop where
 r1:w.ownsRow B 3 1 u1 ins.length (ins.map (Value.int .i64))
 r2:w.ownsRow B 86 6 u2 vs.length (fN vs)
 r3:w.ownsRow B 3 1 u3 outs.length (outs.map (Value.int .i64))
 a12:Apart u1 u2
 a13:Apart u1 u3
 a23:Apart u2 u3
 k:∀v∈vs,v.k<18446744073709551616
 sz:B<=w.heap.size
theorem DG.kept(f:DG w I u1 u2 u3 ins vs outs)(k:Kept l h w B)(bx:h<=I):DG B I u1 u2 u3 ins vs outs:=
 ⟨fD f.r1 k λ_ e=>.inr (yao bx (eG f.r1 e).1),fD f.r2 k λ_ e=>.inr (yao bx (eG f.r2 e).1),fD f.r3 k λ_ e=>.inr (yao bx (eG f.r3 e).1),f.a12,f.a13,f.a23,f.k,yao f.sz k.size⟩
theorem DG.keep(f:DG w I u1 u2 u3 ins vs outs)(k:Kept 0 0 w B):DG B I u1 u2 u3 ins vs outs:=f.kept k yae
theorem RdF.keep0(f:RdF w P a n cap i bs)(k:Kept 0 0 w B):RdF B P a n cap i bs:=f.keep k yab
theorem e8(k:Kept 0 0 w B):Kept l h w B:=⟨k.os,k.tape,k.output,k.size,λi hi _=>k.block i hi xaa⟩
theorem RB.kept{W p bL U aV}(t:RB W p bL U aV)(k:Kept l h W H)(aQ:p<l\/h<=p):RB H p bL U aV:=
 have e:∀o,H.cell? ⟨p,o,none⟩=W.cell? ⟨p,o,none⟩:=λo=>k.cell (p:=⟨p,o,none⟩) t.sz (by grind)
 have x:∀o,H.frozen? ⟨p,o,none⟩=W.frozen? ⟨p,o,none⟩:=λo=>k.frozen (p:=⟨p,o,none⟩) t.sz (by grind)
 ⟨yak t.sz k.size,i1 e t.q0,i1 e t.q1,i1 e t.q2,i1 x t.f0,i1 x t.f1,i1 x t.f2⟩
def mr(vs:List Vl)(n:Int)(fr:Nat):Nat->Nat->Int
 |0,_=>-1
 |m+1,k=>if (vs.getD ((fr+k)%vs.length) h9).len=n then (((fr+k)%vs.length:Nat):Int)else mr vs n fr m (k+1)
def jg(vs:List Vl)(n:Int)(fr:Nat):Int:=mr vs n fr vs.length 0
theorem gO{W u}(h:W.ownsRow I 86 6 u n (fN vs))(ai:vs.length=n){k}(O:k<n):∃g cap,u=h0 g n cap/\I<=g/\g<W.heap.size/\At W g (k*6) (vs.getD k h9):=by
 obtain⟨g,cap,e,F,h2,_,h4⟩:=nj h xaa ai;exact⟨g,cap,e,F,h2,h4.at_ k O⟩
theorem Qp{ae}(h2:w.ownsRow I 86 6 (.slice J ae c2) ae (fN vs))(ai:vs.length=ae)(ag:ae<=100000)(K:RdF w P a n cap i bs)(hP:P<I)(q):
  Calls prog 92 #[eX a1 Z c1 J ae c2 a3 ab c3,h1 q,hZ P] w λe B=>e=.returned (h1 (jg vs q (nv bs i)))/\RdF B P a n cap (ni bs i) bs/\Kept P (P+1) w B:=by
 have ad:=eA 0 0 w (fx a1 Z c1 J ae c2 a3 ab c3);have u:=fp K.ys i;have T:V _:=hH w (.slice a1 Z c1) (.slice J ae c2) (.slice a3 ab c3);have HN:V _:=iw _ P a n cap i bs (K.keep0 ad);have HK:V _:=ad;have HO:V _:=eN h2 ad;have Y:V (jg vs q (nv bs i)=mr vs q (nv bs i) (ae-0) 0):=by show mr vs q (nv bs i) vs.length 0=_;rw[ai];rfl
 have ct:V (P≠w.heap.size):=by have:=K.lt;show P≠_;omega
 generalize jg vs q (nv bs i)=r at Y⊢;generalize nv bs i=x at HN Y u;have HL:V (vs.length=ae):=ai;clear ad h2 K ai;go_enter func92,ntmps92;go_wp2_with fail;refine yaj HN.o ?_;rintro e am ⟨rfl,(aC:V _),av,b2⟩;clear b2;have bQ:V (Kept P (P+1) w am):=(e8 HK.o).trans av;have af:V _:=fD HO.o av λ_ e=>.inr (ix ((eG HO.o e).1));have bf:V (∀o,am.cell? ⟨w.heap.size,o,none⟩=(w.alloc (fx a1 Z c1 J ae c2 a3 ab c3)).cell? ⟨w.heap.size,o,none⟩):=λo=>av.cell (p:=⟨w.heap.size,o,none⟩) xac (by show ¬(P<=w.heap.size/\w.heap.size<P+1);have:=ct.o;omega);have ay:am.cell? ⟨w.heap.size,1,none⟩=some (.slice J ae c2):=by rw[bf.o];obtain⟨_,_,aR,_⟩:=T.o;exact aR
 clear av HK HO HN bf T;go_wp2_with fail;go_loopw [8] (λt W=>∃k:Nat,k<=ae/\t=h1 k/\V (r=mr vs q x (ae-k) k)/\W=am) (λt _=>ae-(intOf t).toNat)
 case atStart=>grind
 case round=>
  obtain⟨k,O,rfl,aF,rfl⟩:=hrel;by_cases hlt:k<ae
  ·have ao:(x+k)%ae<ae:=Nat.mod_lt _ xaa;obtain⟨g,b7,az,aw,bC,bw⟩:=gO af.o HL.o ao;cases az;have aJ:=bw.c1;have m:((x:Int)+k)%(ae:Int)=(((x+k)%ae:Nat):Int):=by rw[Int.natCast_emod,Int.natCast_add]
   have HR:V (r=if (vs.getD ((x+k)%ae) h9).len=q then (((x+k)%ae:Nat):Int)else mr vs q x (ae-(k+1)) (k+1)):=by
    have e:ae-k=(ae-(k+1))+1:=xaa;have:=aF.o;rw[e,mr,HL.o]at this;exact this
   clear aF bw;generalize (vs.getD ((x+k)%ae) h9).len=z at aJ HR;generalize (x+k)%ae=j at ao aJ HR m;by_cases a5:z=q
   ·subst a5;have d:V (r=(j:Int)):=HR.o.trans (h7 rfl);clear HR Y;go_wp2;go_ret;exact⟨by rw[d.o,<-m];rfl,aC.o,bQ.o⟩
   have d:V _:=HR.o.trans (h6 a5);clear HR Y;go_wp2;go_roundw;exact⟨k+1,by omega,by go_num,d.o,trivial⟩;simp[intOf];omega
  have bM:k=ae:=xaa;have d:V (r=-1):=by have:=aF.o;rw[bM,Nat.sub_self,mr]at this;exact this
  clear aF Y bM;go_wp2;go_ret;exact⟨i4 d.o,aC.o,bQ.o⟩
theorem CU(h:RdF w P a n cap i bs):
  Calls prog 80 #[hZ P] w λe B=>e=.returned (h1 ((bs.length:Int)-i))/\Kept 0 0 w B:=by
 have ak:=h.c0;have F:=h.c1;have ag:=h.small;have hi:=h.hi;have ai:V (n=bs.length):=h.ys.len.symm;clear h;go_enter func80,ntmps80;go_wp2;go_quiet (fail)
 go_wp2;go_ret;exact⟨by rw[<-ai.o];rfl,eH _ _ _ _⟩
abbrev iR:Value:=.slice none 0 0
structure GrS(W:World)(B P:Nat)(a:Option Addr)(n cap i:Nat)(bs:List Int)(Q:Nat)(u1 u2 u3:Value)(ins:List Int)(vs:List Vl)(outs:List Int):Prop where
 rd:RdF W P a n cap i bs
 dg:DG W B u1 u2 u3 ins vs outs
 bx:RB W Q u1 u2 u3
 rs:RB W (Q+1) iR iR iR
 pb:P<B
 bq:B<=Q
 far:∀b,u1.ownBlock=some b\/u2.ownBlock=some b\/u3.ownBlock=some b->b<Q
theorem GrS.step{W N}(f:GrS W I P a n cap i bs Q u1 u2 u3 ins vs outs)(K:RdF H P a n cap N bs)(k:Kept P (P+1) W H):GrS H I P a n cap N bs Q u1 u2 u3 ins vs outs:=
 ⟨K,f.dg.kept k (ix f.pb),f.bx.kept k (i0 f.pb f.bq),f.rs.kept k (i0 f.pb f.bq),f.pb,f.bq,f.far⟩
theorem GrS.keep{W}(f:GrS W I P a n cap i bs Q u1 u2 u3 ins vs outs)(k:Kept 0 0 W H):GrS H I P a n cap i bs Q u1 u2 u3 ins vs outs:=f.step (f.rd.keep0 k) (e8 k)
theorem GrS.next{W}(f:GrS W I P a n cap i bs Q u1 u2 u3 ins vs outs):
  Calls prog 14 #[hZ P] W λe H=>e=.returned (h1 (nv bs i:Int))/\GrS H I P a n cap (ni bs i) bs Q u1 u2 u3 ins vs outs/\Kept P (P+1) W H:=
 (iw W P a n cap i bs f.rd).mono λ_ _ q=>⟨q.1,f.step q.2.1 q.2.2.1,q.2.2.1⟩
theorem GrS.start(f:DG w I u1 u2 u3 ins vs outs)(K:RdF w P a n cap i bs)(hP:P<I):
  GrS ((w.alloc (.cells #[u1,u2,u3] 108)).alloc fH) I P a n cap i bs w.heap.size u1 u2 u3 ins vs outs/\Kept 0 0 w ((w.alloc (.cells #[u1,u2,u3] 108)).alloc fH):=by
 have an:=eA 0 0 w (.cells #[u1,u2,u3] 108);have av:=eA 0 0 (w.alloc (.cells #[u1,u2,u3] 108)) fH;have hb:=sZ (S:=λ_=>False) w _ #[u1,u2,u3] 108 (av.chg) (λc=>c);have bI:=iW (w.alloc (.cells #[u1,u2,u3] 108));rw[show(w.alloc (.cells #[u1,u2,u3] 108)).heap.size=w.heap.size+1 by simp]at bI;refine⟨⟨K.keep0 (an.trans av),f.keep (an.trans av),⟨hb.2.2,hb.1 0,hb.1 1,hb.1 2,hb.2.1 0,hb.2.1 1,hb.2.1 2⟩,bI,hP,f.sz,?_⟩,an.trans av⟩;rintro b (c|c|c)
 ·exact(eG f.r1 c).2
 ·exact(eG f.r2 c).2
 exact(eG f.r3 c).2
def fbz(k:Nat):Nat:=if k=0 then 0 else fb k
theorem uO(k):fbz k=fb k:=by
 unfold fbz;split
 ·rename_i h;rw[h];exact fb_zero.symm
 rfl
def sv(v:Vl):Vl:=⟨v.op,v.len,v.a,v.b,v.c,fbz v.k⟩
def GwO(w:World)(B P:Nat)(a:Option Addr)(n cap i:Nat)(bs:List Int)(u1 u2 u3:Value)(ins:List Int)(vs:List Vl)(outs:List Int)(v0:Vl)(e:Ending)(w':World):Prop:=
 ∃v g' cap',e=.returned (.agg #[u1,.slice (some ⟨g',0,none⟩) (vs.length+1) cap',u3])/\sv v=v0/\DG w' B u1 (.slice (some ⟨g',0,none⟩) (vs.length+1) cap') u3 ins (vs++[v]) outs/\RdF w' P a n cap i bs/\Chg (λb=>b=P\/u2.ownBlock=some b) w w'/\(u2.ownBlock=some g'\/w.heap.size<=g')
theorem GrS.put{W ax}(f:GrS W I P a n cap i bs w.heap.size (.slice a1 Z c1) (.slice J vs.length c2) (.slice a3 ab c3) ins vs outs)(X:Kept P (P+1) w W)(k:Kept 0 0 W ax)(v)(aN:v.k<18446744073709551616)(ag:vs.length<=100000):
  Calls prog 78 #[eX a1 Z c1 J vs.length c2 a3 ab c3,v.agg] ax λe am=>∃aC cap',e=.returned (eX a1 Z c1 (some ⟨aC,0,none⟩) (vs.length+1) cap' a3 ab c3)/\RB am (w.heap.size+1) iR iR iR/\GwO w I P a n cap i bs (.slice a1 Z c1) (.slice J vs.length c2) (.slice a3 ab c3) ins vs outs (sv v) (.returned (eX a1 Z c1 (some ⟨aC,0,none⟩) (vs.length+1) cap' a3 ab c3)) (fg am (w.heap.size+1) (.slice a1 Z c1) (h0 aC (vs.length+1) cap') (.slice a3 ab c3)):=by
 have f1:=f.keep k;have G:=f.pb;have F:=f.bq;have b2:=f1.dg.sz;refine(sj ax a1 J a3 Z c1 c2 ab c3 I vs v f1.dg.r2 b2 xaa).mono ?_;rintro e am ⟨aC,cap',rfl,bq,aw⟩;have K:∀b,(Value.slice J vs.length c2).ownBlock=some b->b<w.heap.size/\I<=b:=λb hb=>⟨f.far b (.inr (.inl hb)),(eG f1.dg.r2 hb).1⟩
 have j:(Value.slice J vs.length c2).ownBlock=some aC\/ax.heap.size<=aC:=by
  rcases aw.row with c|⟨r,c,aF⟩
  ·grind
  grind
 have C:w.heap.size+1<ax.heap.size:=f1.rs.sz;have N:aC≠w.heap.size+1:=by grind
 have af:∀o,am.cell? ⟨w.heap.size+1,o,none⟩=ax.cell? ⟨w.heap.size+1,o,none⟩:=λo=>aw.chg.cell (p:=⟨w.heap.size+1,o,none⟩) C (by grind);have bg:∀o,am.frozen? ⟨w.heap.size+1,o,none⟩=ax.frozen? ⟨w.heap.size+1,o,none⟩:=λo=>aw.chg.frozen (p:=⟨w.heap.size+1,o,none⟩) C (by grind);have rs:=f1.rs;have aX:=fk am (w.heap.size+1) (.slice a1 Z c1) (h0 aC (vs.length+1) cap') (.slice a3 ab c3);have d:∀{u:Value}{xs:List Value}{m e s:Nat},ax.ownsRow I e s u m xs->Apart (.slice J vs.length c2) u->am.ownsRow I e s u m xs:=λ{u xs m e s} o aP=>fe o aw.chg (by rintro b hb (c|c);exact c;exact aP b c hb);have hput:∀{W:World}{u:Value}{xs:List Value}{m e s:Nat}{x y z:Value},W.ownsRow I e s u m xs->u.ownBlock≠some (w.heap.size+1)->(fg W (w.heap.size+1) x y z).ownsRow I e s u m xs:=λo an=>eI (eI (eI o an) an) an;have g:Apart (.slice J vs.length c2) (.slice a1 Z c1):=λb hb al=>f.dg.a12 b al hb;refine⟨aC,cap',rfl,⟨yak C aw.chg.size,i1 af rs.q0,i1 af rs.q1,i1 af rs.q2,i1 bg rs.f0,i1 bg rs.f1,i1 bg rs.f2⟩,v,aC,cap',rfl,rfl,⟨?_,?_,?_,?_,f.dg.a13,?_,?_,?_⟩,?_,?_,?_⟩
 ·exact hput (d f1.dg.r1 g) (λc=>ix (f.far _ (.inl c)))
 ·grind[Value.ownBlock]
 ·exact hput (d f1.dg.r3 f.dg.a23) (λc=>by have:=f.far _ (.inr (.inr c));omega)
 ·intro b hb al;have:b=aC:=by simpa[Value.ownBlock] using al.symm
  subst this;rcases j with c|c
  ·exact f.dg.a12 _ hb c
  have:=f.far _ (.inl hb);omega
 ·intro b hb al;have:b=aC:=by simpa[Value.ownBlock] using hb.symm
  subst this;rcases j with c|c
  ·exact f.dg.a23 _ c al
  have:=f.far _ (.inr (.inr al));omega
 ·intro u a6;rcases List.mem_append.1 a6 with c|c
  ·exact f.dg.k u c
  simp_all
 ·exact yao b2 (yao aw.chg.size aX.size)
 ·have aF:=nC f1.rd aw.chg (by grind);exact aF.keep aX (.inl xaa)
 ·have t:=yao X.size k.size;refine⟨aX.os.trans (aw.chg.os.trans (k.os.trans X.os)),aX.tape.trans (aw.chg.tape.trans (k.tape.trans X.tape)),aX.output.trans (aw.chg.output.trans (k.output.trans X.output)),yao t (yao aw.chg.size aX.size),λb hb ag=>?_⟩;refine(aX.block b (ix aw.chg.size) xaa).trans ?_;rw[aw.chg.block b xaa (by grind),k.block b (ix X.size) xaa];exact X.block b hb (λc=>ag (.inl xaa))
 grind
theorem m.qad(h:Zp:=by
 obtain⟨g,b7,az,aw,bC,bw⟩:=gO t.dg.r2 rfl u;cases az;exact qdw):Zp:=h
theorem m.qdx(h:Zp:=by
 rcases b.o with⟨aj,rfl,rfl⟩|⟨aj,rfl,rfl⟩|⟨aj,rfl,rfl⟩
 all_goals
  clear b
  first|(have G:(nv bs i:Int)%16=9:=by omega)|(have G:(nv bs i:Int)%16=11:=by omega)|(have G:(nv bs i:Int)%16=13:=by omega)
  clear aj
  go_wp2_with fail
  obtain⟨_,aP,ay,aB,_,_,_⟩:=au.o.bx
  go_region_with (first|(go_at_call 78;refine yaj (aD.o _ _ _ _ _ _ _ au.o HK.o _ ((eF _).trans aZ)) ?_;rintro e am ⟨aC,cap',rfl,a0,aH⟩;obtain⟨_,bq,aq,aT,bR,bS,bT⟩:=a0)|(go_at_call 79;refine yaj (gG _ _ _ _ _ _) ?_;rintro e aU ⟨rfl,aZ⟩;obtain⟨_,aY,ar,aW,_,_,_⟩:=(au.o.keep ((eF _).trans aZ)).bx))
  all_goals
   go_wp2_with fail
   obtain⟨bl,aS,a9⟩:=fd am (w.heap.size+1) _ _ _ bq aq aT (.slice a1 Z c1) (h0 aC (vs.length+1) cap') (.slice a3 ab c3)
   exact yaz (v:=eX a1 Z c1 (some ⟨aC,0,none⟩) (vs.length+1) cap' a3 ab c3) (by simp[results,results81,go_sem,bl,aS,a9]) rfl aH):Zp:=h
open m in
theorem uP(f:DG w I (.slice a1 Z c1) (.slice J vs.length c2) (.slice a3 ab c3) ins vs outs)(K:RdF w P a n cap i bs)(hP:P<I)(ag:vs.length<=100000)(ak:0<vs.length){m}(ao:(vd vs (nv bs (ni bs i)%vs.length)).len=m){o l}(O:(nv bs i%16=9/\o=6/\l=m)\/(nv bs i%16=11/\o=9/\l=1)\/(nv bs i%16=13/\o=13/\l=m)):
  Calls prog 81 #[eX a1 Z c1 J vs.length c2 a3 ab c3,hZ P] w (GwO w I P a n cap (ni bs (ni bs i)) bs (.slice a1 Z c1) (.slice J vs.length c2) (.slice a3 ab c3) ins vs outs ⟨o,l,((nv bs (ni bs i)%vs.length:Nat):Int),0,0,0⟩):=by
 exact qac
end
section
theorem GrS.pick{W I P a n cap i bs Q a1 J a3 Z c1 c2 ab c3 ins vs outs}(f:GrS W I P a n cap i bs Q (.slice a1 Z c1) (.slice J vs.length c2) (.slice a3 ab c3) ins vs outs)(ag:vs.length<=100000)(q):
  Calls prog 92 #[eX a1 Z c1 J vs.length c2 a3 ab c3,h1 q,hZ P] W λe H=>e=.returned (h1 (jg vs q (nv bs i)))/\GrS H I P a n cap (ni bs i) bs Q (.slice a1 Z c1) (.slice J vs.length c2) (.slice a3 ab c3) ins vs outs/\Kept P (P+1) W H:=
 (Qp f.dg.r2 rfl ag f.rd f.pb q).mono λ_ _ h=>⟨h.1,f.step h.2.1 h.2.2,h.2.2⟩
end
section
attribute[local go_sem] eE eD eC
variable{I i Z c1 c2 ab c3:Nat}{bs ins outs:List Int}{a1 J a3:Option Addr}{vs:List Vl}
theorem n.qad(h:Zp:=by
 obtain⟨g,b7,az,aw,bC,bw⟩:=gO t.dg.r2 rfl u;cases az;exact qdp):Zp:=h
theorem n.qdq(h:Zp:=by
 exact xbh):Zp:=h
theorem n.qff(h:Zp:=by
 have hd0:0<1+nv bs (ni bs (ni bs (ni bs i)))%4/\1+nv bs (ni bs (ni bs (ni bs i)))%4<=4:=xaa;generalize 1+nv bs (ni bs (ni bs (ni bs i)))%4=d at l hd0⊢;have al:(nv bs (ni bs (ni bs (ni bs (ni bs i)))):Int)%(d:Int)=((nv bs (ni bs (ni bs (ni bs (ni bs i))))%d:Nat):Int):=xaa;have y:nv bs (ni bs (ni bs (ni bs (ni bs i))))%d<d:=Nat.mod_lt _ hd0.1;have b9:=fp K.ys (ni bs (ni bs (ni bs (ni bs i))));generalize nv bs (ni bs (ni bs (ni bs (ni bs i))))%d=c at al y⊢;have bf:V ((nv bs (ni bs (ni bs (ni bs (ni bs i)))):Int).tmod (d:Int)=c):=(Int.tmod_eq_emod_of_nonneg xaa).trans al;have cO:V _:=l;clear l al;exact qac):Zp:=h
open n in
theorem Ih{w P a n cap}(f:DG w I (.slice a1 Z c1) (.slice J vs.length c2) (.slice a3 ab c3) ins vs outs)(K:RdF w P a n cap i bs)(hP:P<I)(ag:vs.length<=100000)(ak:0<vs.length){m}(ao:(vd vs (nv bs (ni bs i)%vs.length)).len=m)(hb:0<=jg vs 1 (nv bs (ni bs (ni bs i))))(O:nv bs i%16=15):
  Calls prog 81 #[eX a1 Z c1 J vs.length c2 a3 ab c3,hZ P] w (GwO w I P a n cap (ni bs (ni bs (ni bs (ni bs (ni bs i))))) bs (.slice a1 Z c1) (.slice J vs.length c2) (.slice a3 ab c3) ins vs outs ⟨12,((1+nv bs (ni bs (ni bs (ni bs i)))%4:Nat):Int),jg vs 1 (nv bs (ni bs (ni bs i))),0,((nv bs (ni bs (ni bs (ni bs (ni bs i))))%(1+nv bs (ni bs (ni bs (ni bs i)))%4):Nat):Int),0⟩):=by
 exact qfe
theorem aB.qaw(h:Zp:=by
 rcases Nat.eq_zero_or_pos ae with a5|a5
 case' inl=>have X:(ae:Int)<=0:=xaa
 case' inl=>clear a5
 case' inr=>have G:(nv bs i:Int)%16=0:=ix b.o
 all_goals
  clear b
  rcases bZ.o with⟨hz1,aQ⟩|⟨hz1,hz2,aQ⟩
 case' inl.inl|inr.inl=>
  have hz2:(Z:Int)<=0:=xaa;clear hz1
 case' inl.inr|inr.inr=>
  have HO:V (¬(nv bs (ni bs i):Int)%2=1):=by show ¬_;omega
  clear hz2;go_wp2_with fail;refine yaj au.o.next ?_;rintro e bo ⟨rfl,t,av⟩;replace HK:V _:=HK.o.trans av;replace au:V _:=t;clear t av aP ay aB;have r:=HO.o
 all_goals
  rw[<-aQ]at au
  clear aQ bZ
  go_wp2_with fail
  refine yaj (OL _ _ _ _ _ _ _ au.o.rd) ?_
  rintro e ca ⟨z,rfl,h,g,ah,a2⟩
  have j:V (sv ⟨1,d,0,0,0,z⟩=⟨1,d,0,0,0,fb (dfV bs p)⟩):=by show _=_;rw[<-h,<-uO];rfl
  clear h
  replace HK:V _:=HK.o.trans a2
  replace au:V _:=au.o.step ah a2
  clear ah a2
  go_wp2_with fail
  refine yaj au.o.next ?_
  rintro e a7 ⟨rfl,F,bY⟩
  replace HK:V _:=HK.o.trans bY
  replace au:V _:=F
  clear F bY
  have l:=cO.o
  have HZ:V _:=g
  clear g
  obtain⟨_,bP,aR,bd,_,_,_⟩:=au.o.bx
  go_wp2_with fail
  refine yaj (aD.o _ _ ⟨1,d,0,0,0,z⟩ au.o HK.o _ iv HZ.o) ?_
  rintro e am ⟨aC,cap',rfl,a0,aH⟩
  obtain⟨_,bq,aq,aT,bR,bS,bT⟩:=a0
  go_wp2_with fail
  obtain⟨bl,aS,a9⟩:=fd am (w.heap.size+1) _ _ _ bq aq aT (.slice a1 Z c1) (h0 aC (ae+1) cap') (.slice a3 ab c3)
  exact yaz (v:=eX a1 Z c1 (some ⟨aC,0,none⟩) (ae+1) cap' a3 ab c3) (by simp[results,results81,go_sem,bl,aS,a9]) rfl (j.o ▸ aH)):Zp:=h
open aB in
theorem uQ{w P a n cap}(f:DG w I (.slice a1 Z c1) (.slice J vs.length c2) (.slice a3 ab c3) ins vs outs)(K:RdF w P a n cap i bs)(hP:P<I)(ag:vs.length<=100000){p}(aQ:(Z=0/\p=ni bs i)\/(0<Z/\nv bs (ni bs i)%2≠1/\p=ni bs (ni bs i)))(O:nv bs i%16=0\/vs.length=0):
  Calls prog 81 #[eX a1 Z c1 J vs.length c2 a3 ab c3,hZ P] w (GwO w I P a n cap (ni bs (dfI bs p)) bs (.slice a1 Z c1) (.slice J vs.length c2) (.slice a3 ab c3) ins vs outs ⟨1,((1+nv bs (dfI bs p)%4:Nat):Int),0,0,0,fb (dfV bs p)⟩):=by
 have l:(1:Int)+(nv bs (dfI bs p):Int)%4=((1+nv bs (dfI bs p)%4:Nat):Int):=xaa;have aF:=fp K.ys (dfI bs p);generalize 1+nv bs (dfI bs p)%4=d at l⊢;have cO:V _:=l;have bZ:V _:=aQ;clear l aQ;exact qav
variable{w W H:World}{P n cap i nE cE:Nat}{a aE:Option Addr}{bs:List Int}{env:List (List UInt8×Int)}
structure En(w:World)(P:Nat)(aE:Option Addr)(nE:Nat)(env:List (List UInt8×Int)):Prop where
 len:env.length=nE
 le:nE<=100
 at_:∀k,k<nE->∃g,aE=some ⟨g,0,none⟩/\P<g/\g<w.heap.size/\w.cell? ⟨g,k*2,none⟩=some (eK (env.getD k ([],0)).1)/\w.cell? ⟨g,k*2+1,none⟩=some (.int .i64 (env.getD k ([],0)).2)
theorem En.keep(f:En w P aE nE env)(k:Kept P (P+1) w W):En W P aE nE env:=
 ⟨f.len,f.le,λj hj=>by
  obtain⟨g,e,F,h2,c0,c1⟩:=f.at_ j hj
  exact⟨g,e,F,yak h2 k.size,(k.cell h2 (by grind)).trans c0,(k.cell h2 (by grind)).trans c1⟩⟩
theorem En.keep0(f:En w P aE nE env)(k:Kept 0 0 w W):En W P aE nE env:=f.keep (e8 k)
def ofG(env:List (List UInt8×Int))(q:Int)(c:Nat):Nat->Nat->List UInt8
 |0,_=>[]
 |m+1,k=>if (env.getD ((k+c)%env.length) ([],0)).2=q then (env.getD ((k+c)%env.length) ([],0)).1 else ofG env q c m (k+1)
def ofM(env:List (List UInt8×Int))(q:Int)(c:Nat):List UInt8:=ofG env q c env.length 0
theorem OM(f:En w P aE nE env)(K:RdF w P a n cap i bs)(q):
  Calls prog 117 #[.slice aE nE cE,h1 q,hZ P] w λe B=>e=.returned (eK (ofM env q (nv bs i)))/\RdF B P a n cap (ni bs i) bs/\Kept P (P+1) w B:=by
 have u:=fp K.ys i;have HN:V _:=iw w P a n _ i _ K;have aD:V _:=f;have Y:V (ofM env q (nv bs i)=ofG env q (nv bs i) (nE-0) 0):=by show ofG _ _ _ _ _=_;rw[f.len];rfl
 have ag:=f.le;generalize ofM _ q _=r at Y⊢;generalize nv _ i=x at HN Y u;clear f K;go_enter func117,ntmps117;go_wp2_with fail;refine yaj HN.o ?_;rintro e am ⟨rfl,(aC:V _),(bQ:V _),b2⟩;clear b2 HN;have cf:V _:=aD.o.keep bQ.o;clear aD;go_wp2_with fail;go_loopw [8] (λt W=>∃k:Nat,k<=nE/\t=h1 k/\V (r=ofG env q x (nE-k) k)/\V (Kept 0 0 am W)) (λt _=>nE-(intOf t).toNat)
 case atStart=>exact⟨0,yae,rfl,Y.o,iv⟩
 case round=>
  obtain⟨k,O,rfl,aF,aG⟩:=hrel;by_cases hlt:k<nE
  ·have ao:(k+x)%nE<nE:=Nat.mod_lt _ xaa;obtain⟨g,az,aw,bC,bh,aJ⟩:=(cf.o.keep0 aG.o).at_ _ ao;have m:(k+(x:Int))%nE=((k+x)%nE:Nat):=by rw[Int.natCast_emod,Int.natCast_add]
   have HR:V (r=if (env.getD ((k+x)%nE) ([],0)).2=q then (env.getD ((k+x)%nE) ([],0)).1 else ofG env q x (nE-(k+1)) (k+1)):=by
    have e:nE-k=(nE-(k+1))+1:=xaa;have:=aF.o;rw[e,ofG,cf.o.len]at this;exact this
   clear aF;subst az;generalize env.getD _ _=z at bh aJ HR;generalize (k+x)%nE=j at ao bh aJ HR m;obtain⟨aR,bd⟩:=z;simp only at bh aJ HR;have C:V (Kept 0 0 _ (wr.alloc (.cells #[eK aR,h1 bd] 148))):=aG.o.trans (eA 0 0 _ _);by_cases a5:bd=q
   ·subst a5;have d:V _:=HR.o.trans (h7 rfl);clear HR Y;go_wp2;go_ret;exact⟨i4 d.o,aC.o.keep0 C.o,bQ.o.trans (e8 C.o)⟩
   have d:V _:=HR.o.trans (h6 a5);clear HR Y;go_wp2;go_roundw;exact⟨k+1,by omega,by go_num,d.o,C⟩;simp[intOf];omega
  have bM:k=nE:=xaa;have d:V (r=[]):=by simp_all[ofG]
  clear aF Y bM;go_wp2;go_ret;exact⟨i4 d.o,aC.o.keep0 aG.o,bQ.o.trans (e8 aG.o)⟩
structure Xd where
 w:World
 P:Nat
 n:Nat
 cap:Nat
 nE:Nat
 cE:Nat
 a:Option Addr
 aE:Option Addr
structure Sd(X:Xd)(env:List (List UInt8×Int))(bs:List Int)(i:Nat)(W:World):Prop where
 rd:RdF W X.P X.a X.n X.cap i bs
 en:En W X.P X.aE X.nE env
 kp:Kept X.P (X.P+1) X.w W
variable{X:Xd}{W H:World}{env:List (List UInt8×Int)}{bs:List Int}{i j:Nat}
theorem Sd.go(h:Sd X env bs i W)(r:RdF H X.P X.a X.n X.cap j bs)(k:Kept X.P (X.P+1) W H):Sd X env bs j H:=⟨r,h.en.keep k,h.kp.trans k⟩
theorem Sd.keep0(h:Sd X env bs i W)(k:Kept 0 0 W H):Sd X env bs i H:=h.go (h.rd.keep0 k) (e8 k)
def Tx(X:Xd)(env:List (List UInt8×Int))(bs:List Int)(j:Nat)(v:Value)(e:Ending)(w':World):Prop:=e=.returned v/\Sd X env bs j w'
theorem nxS(h:Sd X env bs i W):Calls prog 14 #[hZ X.P] W (Tx X env bs (ni bs i) (h1 (nv bs i:Int))):=
 (iw W X.P X.a X.n X.cap i bs h.rd).mono λ_ _ ⟨e,r,k,_⟩=>⟨e,h.go r k⟩
theorem lfS(h:Sd X env bs i W):Calls prog 80 #[hZ X.P] W (Tx X env bs i (h1 ((bs.length:Int)-i))):=
 (CU h.rd).mono λ_ _ ⟨e,k⟩=>⟨e,h.keep0 k⟩
theorem olS(q)(h:Sd X env bs i W):Calls prog 117 #[.slice X.aE X.nE X.cE,h1 q,hZ X.P] W (Tx X env bs (ni bs i) (eK (ofM env q (nv bs i)))):=
 (OM h.en h.rd q).mono λ_ _ ⟨e,r,k⟩=>⟨e,h.go r k⟩
theorem nbS(h:Sd X env bs i W):Calls prog 131 #[hZ X.P] W (Tx X env bs (ni bs i) (eK (l3n (nv bs i)))):=
 (Bx W X.P X.a X.n X.cap i bs h.rd).mono λ_ _ ⟨e,r,k,_⟩=>⟨e,h.go r k⟩
theorem dcS{q:Nat}(aA:q<=1000)(h:Sd X env bs i W):Calls prog 100 #[h1 q] W (Tx X env bs i (eK (gM q))):=
 (zE q q yad xaa W).mono λ_ _ ⟨e,bg⟩=>⟨e,bg ▸ h⟩
theorem sz2{x y:ByteArray}{G:Prop}(h:x.size+y.size<=1000000)(k:¬9223372036854775807<x.size+y.size->x.size<=1000000->G):G:=k xaa xaa
theorem ON(bU:∀x∈env,x.1.length<=5)(q c):(ofM env q c).length<=5:=by
 have h:∀m k,(ofG env q c m k).length<=5:=by
  intro m;induction m with
  |zero=>exact λ_=>by simp[ofG]
  |succ m G=>
   intro k;rw[ofG];grind
 exact h _ _
theorem OO{x}(h:x<256):(l3n x).length<=300:=by
 grind[ke,l3n]
def Dr(env:List (List UInt8×Int))(bs:List Int)(i f:Nat)(xs:Xd->Array Value)(m:Nat)(s:ByteArray)(j:Nat):Prop:=s.size<=m/\∀X W,V (Sd X env bs i W)->Calls prog f (xs X) W (Tx X env bs j (.string s))
theorem fU{f m:Nat}{xs s}(a5:s.size<=m)(ao:m<=1000000)(h:s.size<=1000000->∀X W,V (Sd X env bs i W)->Calls prog f (xs X) W (Tx X env bs j (.string s))):Dr env bs i f xs m s j:=⟨a5,h (yao a5 ao)⟩
theorem olD(bU:∀x∈env,x.1.length<=5)(q i):∃s j,Dr env bs i 117 (λX=>#[.slice X.aE X.nE X.cE,h1 q,hZ X.P]) 5 s j:=⟨_,_,by rw[fO];exact ON bU q _,λ_ _ h=>olS q h.o⟩
theorem nbD(hb:∀i,nv bs i<256)(i):∃s j,Dr env bs i 131 (λX=>#[hZ X.P]) 300 s j:=⟨_,_,by rw[fO];exact OO (hb i),λ_ _ h=>nbS h.o⟩
theorem dcD{q}(ak:0<=q)(h3:q<=3):∃s,∀i,Dr env bs i 100 (λ_=>#[h1 q]) 5 s i:=by
 obtain⟨q,rfl⟩:=Int.eq_ofNat_of_zero_le ak;exact⟨_,λ_=>⟨by rw[fO];have:=ke q;omega,λ_ _ h=>dcS xaa h.o⟩⟩
theorem vE(s:ByteArray):s.toList=[]/\s.toList.isEmpty=true\/¬s.toList=[]/\s.toList.isEmpty=false:=by
 grind
theorem Na(bU:∀x∈env,x.1.length<=5)(hb:∀i,nv bs i<256)(q)(aA:1<=q/\q<=3)(i):∃s j,Dr env bs i 116 (λX=>#[.slice X.aE X.nE X.cE,h1 q,hZ X.P]) 1000 s j:=by
 obtain⟨aY,bE,A⟩:=olD (bs:=bs) bU q i;obtain⟨ar,bm,I⟩:=nbD (env:=env) hb (ni bs bE);obtain⟨aW,D⟩:=dcD (env:=env) (bs:=bs) (by omega:0<=q) aA.2;have ak:=A.1;have F:=I.1;have h2:=(D 0).1;rcases vE aY with⟨bl,a9⟩|⟨bl,a9⟩<;>rcases (by omega:q=1\/¬q=1) with rfl|bV<;>rcases (by omega:(nv bs bE:Int)%4=0\/0<(nv bs bE:Int)%4) with aS|aS
 ·exact xbf
 ·exact xbf
 ·exact xba
 ·exact xba
 ·exact xbf
 ·exact xcl
 ·exact xba
 exact xcl
