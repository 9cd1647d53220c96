import Derived.Test.YtkjahdegnkmejaaGreatP21
import Derived.Test.YtkjahdegnkmejaaGreatP07
namespace Go.Proofs.Z
variable{Zp:Prop}
open Tryz Go.RowKit Flt
set_option maxRecDepth 1000000
set_option maxHeartbeats 0
section
attribute[local go_sem] eE eC
def niN(bs:List Int)(i:Nat):Nat->Nat
 |0=>i
 |k+1=>ni bs (niN bs i k)
def dfI(bs:List Int)(i:Nat):Nat:=if nv bs i%16=10 then ni bs (ni bs i)else if 14<=nv bs i%16 then niN bs (ni bs i) 8 else ni bs i
def dfB(bs:List Int)(i:Nat):Nat->Int
 |0=>0
 |k+1=>IntKind.u64.wrap (IntKind.u64.wrap (dfB bs i k*256)+IntKind.u64.wrap (nv bs (niN bs i k):Int))
def dfV(bs:List Int)(i:Nat):Nat:=
 if nv bs i%16<6 then floatOfInt .f64 ((nv bs i:Int)/16)
 else if nv bs i%16<9 then Op.negFloat .f64 (floatOfInt .f64 ((nv bs i:Int)/16))
 else if nv bs i%16=9 then cop .quo (floatOfInt .f64 ((nv bs i:Int)/16)) 4620693217682128896
 else if nv bs i%16=10 then cop .quo (floatOfInt .f64 ((nv bs i:Int)/16)) (floatOfInt .f64 (wrap64 ((nv bs (ni bs i):Int)+1)))
 else if nv bs i%16=11 then[0,9223372036854775808,9218868437227405312,18442240474082181120,9221120237041090560,1,9223372036854775809,4503599627370496,9218868437227405311,18442240474082181119,4607182418800017408,13830554455654793216,4591870180066957722,4846369599423283200,4841369599423283202,20240225330731].getD (nv bs i/16) 0
 else if nv bs i%16=12 then cop .mul (floatOfInt .f64 ((nv bs i:Int)/16)) 9094988921128908188
 else if nv bs i%16=13 then cop .mul (Op.negFloat .f64 (floatOfInt .f64 ((nv bs i:Int)/16))) 2024
 else if nv bs i%16=14 then (bits .or .u64 (dfB bs (ni bs i) 8) (IntKind.u64.wrap (IntKind.u64.wrap (wrap64 ((nv bs i:Int)/16))*576460752303423488))).toNat
 else (dfB bs (ni bs i) 8).toNat
theorem FP(bs i):∀k,0<=dfB bs i k/\dfB bs i k<18446744073709551616
 |0=>⟨Int.le_refl _,by show(0:Int)<_;decide⟩
 |k+1=>⟨wrap_u64_nonneg _,rt _⟩
def DfO(P:Nat)(a:Option Addr)(n cap i:Nat)(bs:List Int)(w:World)(x:Nat)(e:Ending)(w':World):Prop:=∃z,e=.returned (.float .f64 z)/\fb z=fb x/\z<18446744073709551616/\RdF w' P a n cap i bs/\Kept P (P+1) w w'
theorem RdF.drw{w P a n cap i bs}(f:RdF w P a n cap i bs)(m):RdF (w.drewN m) P a n cap i bs:=f.keep (eJ 0 0 w m) yab
theorem Nk(w P a n cap i bs)(h:RdF w P a n cap i bs):
  Calls prog 80 #[ge P] w (DfO P a n cap (dfI bs i) bs w (dfV bs i)):=by
 have aH:=fD h.ys i;have bu:V _:=iD w P a n cap i bs h;have HD:V (dfI bs i=if nv bs i%16=10 then ni bs (ni bs i)else if 14<=nv bs i%16 then niN bs (ni bs i) 8 else ni bs i):=rfl;unfold DfO;have q:∃K,fb (dfV bs i)=K:=⟨_,rfl⟩
 obtain⟨K,aL⟩:=q;rw[aL];unfold dfV at aL;have b2:V _:=aL.symm;clear aL;generalize dfI bs i=l at HD⊢;generalize nv bs i=x at bu HD b2 aH;have f1:=@pT prog;have f2:=@Es prog;have f3:=yR;clear h;go_enter func80,ntmps80;go_wp2_with fail;refine yaj bu.o ?_;rintro e aK ⟨rfl,B,cp,b8⟩;clear b8 bu;have b1:V (x%16≠10->x%16<14->l=ni bs i):=λc d=>by rw[HD.o,ip c,ip xaa]
 have g:V (x%16=10->l=ni bs (ni bs i)):=λc=>by rw[HD.o,iv c]
 have f:V (14<=x%16->l=niN bs (ni bs i) 8):=λc=>by rw[HD.o,ip xaa,iv c]
 clear HD;rcases JR x with J|J|J|J|J|J|J|J|J
 ·have aG:=b2.o;rw[iv xaa]at aG;have bF:V _:=aG;clear b2 aG;have aN:=b1.o xaa xaa;clear b1 g f;subst aN;have C:(x:Int)%16<6:=xaa;clear J;go_wp2;go_ret;exact⟨_,rfl,bF.o.symm,tz _,B,cp⟩
 ·have aG:=b2.o;rw[ip xaa,iv xaa]at aG;have bF:V _:=aG;clear b2 aG;have aN:=b1.o xaa xaa;clear b1 g f;subst aN;have C:6<=(x:Int)%16:=xaa;have r:(x:Int)%16<9:=xaa;clear J;go_wp2;go_ret;exact⟨_,rfl,bF.o.symm,FO (tz _),B,cp⟩
 ·have aG:=b2.o;rw[ip xaa,ip xaa,iv xaa]at aG;have bF:V _:=aG;clear b2 aG;have aN:=b1.o xaa xaa;clear b1 g f;subst aN;have C:(x:Int)%16=9:=xaa;exact xeo
 ·have aG:=b2.o;rw[ip xaa,ip xaa,ip xaa,iv xaa]at aG;have bF:V _:=aG;clear b2 aG;have aN:=g.o J;clear b1 g f;subst aN;have C:(x:Int)%16=10:=xaa;clear J;go_wp2_with fail;refine(iD _ _ _ _ _ _ _ B).mono ?_;rintro e ak ⟨rfl,N,aD,cc⟩;clear cc;go_wp2;go_ret;exact⟨_,rfl,(mz _ _ _ _).trans bF.o.symm,mR _ _ _ _,N.drw _,cp.trans (aD.trans (eJ _ _ _ _))⟩
 ·have aG:=b2.o;rw[ip xaa,ip xaa,ip xaa,ip xaa,iv xaa]at aG;have bF:V _:=aG;clear b2 aG;have aN:=b1.o xaa xaa;clear b1 g f;subst aN;have am:x=11\/x=27\/x=43\/x=59\/x=75\/x=91\/x=107\/x=123\/x=139\/x=155\/x=171\/x=187\/x=203\/x=219\/x=235\/x=251:=xaa;clear J aH;rcases am with rfl|rfl|rfl|rfl|rfl|rfl|rfl|rfl|rfl|rfl|rfl|rfl|rfl|rfl|rfl|rfl
  all_goals
   go_wp2
   go_ret
   refine⟨_,rfl,?_,?_,(B.keep (eA 0 0 _ _) yab).drw _,(cp.trans (eA _ _ _ _)).trans (eJ _ _ _ _)⟩
   ·rw[bF.o];first|rfl|(rw[mz];rfl)|(rw[mz];decide)
   ·first|exact mR _ _ _ _|exact FO xaa|omega
 ·have aG:=b2.o;rw[ip xaa,ip xaa,ip xaa,ip xaa,ip xaa,iv xaa]at aG;have bF:V _:=aG;clear b2 aG;have aN:=b1.o xaa xaa;clear b1 g f;subst aN;have C:(x:Int)%16=12:=xaa;exact xeo
 ·have aG:=b2.o;rw[ip xaa,ip xaa,ip xaa,ip xaa,ip xaa,ip xaa,iv xaa]at aG;have bF:V _:=aG;clear b2 aG;have aN:=b1.o xaa xaa;clear b1 g f;subst aN;have C:(x:Int)%16=13:=xaa;exact xeo
 ·have aG:=b2.o;rw[ip xaa,ip xaa,ip xaa,ip xaa,ip xaa,ip xaa,ip xaa,iv xaa]at aG;have bF:V _:=aG;clear b2 aG;have aN:=f.o xaa;clear b1 g f;have k:V _:=aN;clear aN;have HK:V ((x:Int)%16=14):=by show(x:Int)%16=14;omega
  have C:=HK.o;clear J;go_wp2_with fail;clear f1 f2 f3 C aH;go_loopw [9,10] (λb t W=>∃j:Nat,j<=8/\t=ih (j:Nat)/\b=.int .u64 (dfB bs (ni bs i) j)/\RdF W P a n cap (niN bs (ni bs i) j) bs/\Kept P (P+1) w W) (λ_ t _=>8-(intOf t).toNat)
  case atStart=>exact⟨0,by omega,rfl,rfl,B,cp⟩
  case round=>
   obtain⟨j,hj,rfl,rfl,X,aZ⟩:=hrel;by_cases aY:j<8
   ·exact xfb
   have er:j=8:=xaa;have C:=HK.o;have ao:V _:=FP bs (ni bs i) j;have HR:V _:=X;rw[er]at HR;rw[er]at ao⊢;clear X er hj;go_wp2_with fail;obtain⟨ae,ai,cf⟩:=Ni (dfB bs (ni bs i) 8) (IntKind.u64.wrap (IntKind.u64.wrap (wrap64 ((x:Int)/16))*576460752303423488)) ao.o.1 ao.o.2 (wrap_u64_nonneg _) (rt _);have bv:V (fb ae=K):=by show _=_;rw[bF.o,ai];rfl
   rw[ai];refine(tv ae _ cf).mono ?_;rintro e ak ⟨y,rfl,bK,R,m,rfl⟩;replace bv:V _:=bK.trans bv.o;clear ai cf bK C;exact xin
 have aG:=b2.o;rw[ip xaa,ip xaa,ip xaa,ip xaa,ip xaa,ip xaa,ip xaa,ip xaa]at aG;have bF:V _:=aG;clear b2 aG;have aN:=f.o xaa;clear b1 g f;have k:V _:=aN;clear aN;have HK:V ((x:Int)%16=15):=by show(x:Int)%16=15;omega
 have C:=HK.o;clear J;go_wp2_with fail;clear f1 f2 f3 C aH;go_loopw [9,10] (λb t W=>∃j:Nat,j<=8/\t=ih (j:Nat)/\b=.int .u64 (dfB bs (ni bs i) j)/\RdF W P a n cap (niN bs (ni bs i) j) bs/\Kept P (P+1) w W) (λ_ t _=>8-(intOf t).toNat)
 case atStart=>exact⟨0,by omega,rfl,rfl,B,cp⟩
 case round=>
  obtain⟨j,hj,rfl,rfl,X,aZ⟩:=hrel;by_cases aY:j<8
  ·exact xfb
  have er:j=8:=xaa;have C:=HK.o;have ao:V _:=FP bs (ni bs i) j;have HR:V _:=X;rw[er]at HR;rw[er]at ao⊢;clear X er hj;go_wp2_with fail;obtain⟨ae,ai⟩:=Int.eq_ofNat_of_zero_le ao.o.1;have cf:ae<18446744073709551616:=i4 ao.o.2
  have bv:V (fb ae=K):=by show _=_;rw[bF.o,ai];rfl
  rw[ai];clear ai;refine(tv ae _ cf).mono ?_;rintro e ak ⟨y,rfl,bK,R,m,rfl⟩;replace bv:V _:=bK.trans bv.o;clear bK C;exact xin
end
section
attribute[local go_sem] eE eC eB
variable{w O:World}{I P n l cap h i:Nat}{a:Option Addr}{u1 u2 u3:Value}{ins outs bs:List Int}{vs:List Vl}
structure DG(w:World)(B:Nat)(u1 u2 u3:Value)(ins:List Int)(vs:List Vl)(outs:List Int):Prop where
 r1:w.ownsRow B 3 1 u1 ins.length (ins.map (Value.int .i64))
 r2:w.ownsRow B 79 6 u2 vs.length (fU vs)
 r3:w.ownsRow B 3 1 u3 outs.length (outs.map (Value.int .i64))
 a12:Apart u1 u2
 a13:Apart u1 u3
 a23:Apart u2 u3
 k:∀v∈vs,v.k<18446744073709551616
 sz:B<=w.heap.size
theorem DG.kept(f:DG w I u1 u2 u3 ins vs outs)(k:Kept l h w O)(bN:h<=I):DG O I u1 u2 u3 ins vs outs:=
 ⟨fJ f.r1 k λ_ e=>.inr (yao bN (eF f.r1 e).1),fJ f.r2 k λ_ e=>.inr (yao bN (eF f.r2 e).1),fJ f.r3 k λ_ e=>.inr (yao bN (eF f.r3 e).1),f.a12,f.a13,f.a23,f.k,yao f.sz k.size⟩
theorem DG.keep(f:DG w I u1 u2 u3 ins vs outs)(k:Kept 0 0 w O):DG O I u1 u2 u3 ins vs outs:=f.kept k yae
theorem RdF.keep0(f:RdF w P a n cap i bs)(k:Kept 0 0 w O):RdF O P a n cap i bs:=f.keep k yab
theorem eZ(k:Kept 0 0 w O):Kept l h w O:=⟨k.os,k.tape,k.output,k.size,λi hi _=>k.block i hi xaa⟩
theorem RB.kept{W F p bE R a6}(t:RB W p bE R a6)(k:Kept l h W F)(aA:p<l\/h<=p):RB F p bE R a6:=
 have e:∀o,F.cell? ⟨p,o,none⟩=W.cell? ⟨p,o,none⟩:=λo=>k.cell (p:=⟨p,o,none⟩) t.sz (by show ¬(l<=p/\p<h);omega)
 have x:∀o,F.frozen? ⟨p,o,none⟩=W.frozen? ⟨p,o,none⟩:=λo=>k.frozen (p:=⟨p,o,none⟩) t.sz (by show ¬(l<=p/\p<h);omega)
 ⟨yak t.sz k.size,jn e t.q0,jn e t.q1,jn e t.q2,jn x t.f0,jn x t.f1,jn x t.f2⟩
def lS(vs:List Vl)(n:Int)(fr:Nat):Nat->Nat->Int
 |0,_=>-1
 |m+1,k=>if (vs.getD ((fr+k)%vs.length) i0).len=n then (((fr+k)%vs.length:Nat):Int)else lS vs n fr m (k+1)
def i9(vs:List Vl)(n:Int)(fr:Nat):Int:=lS vs n fr vs.length 0
theorem gQ{W u}(h:W.ownsRow I 79 6 u n (fU vs))(ag:vs.length=n){k}(J:k<n):∃g cap,u=ia g n cap/\I<=g/\g<W.heap.size/\At W g (k*6) (vs.getD k i0):=by
 obtain⟨g,cap,e,B,N,_,bp⟩:=mV h xaa ag;exact⟨g,cap,e,B,N,bp.at_ k J⟩
theorem Pf{a1 K a3 Y c1 ae c2 aa c3}(N:w.ownsRow I 79 6 (.slice K ae c2) ae (fU vs))(ag:vs.length=ae)(hn:ae<=100000)(X:RdF w P a n cap i bs)(hP:P<I)(q):
  Calls prog 81 #[eX a1 Y c1 K ae c2 a3 aa c3,ih q,ge P] w λe O=>e=.returned (ih (i9 vs q (nv bs i)))/\RdF O P a n cap (ni bs i) bs/\Kept P (P+1) w O:=by
 have bF:=eA 0 0 w (fB a1 Y c1 K ae c2 a3 aa c3);have v:=fD X.ys i;have ao:V _:=ib w (.slice a1 Y c1) (.slice K ae c2) (.slice a3 aa c3);have bu:V _:=iD _ P a n cap i bs (X.keep0 bF);have HK:V _:=bF;have HO:V _:=eN N bF;have Z:V (i9 vs q (nv bs i)=lS vs q (nv bs i) (ae-0) 0):=by show lS vs q (nv bs i) vs.length 0=_;rw[ag];rfl
 have an:V (P≠w.heap.size):=by have:=X.lt;show P≠_;omega
 generalize i9 vs q (nv bs i)=r at Z⊢;generalize nv bs i=x at bu Z v;have HL:V (vs.length=ae):=ag;clear bF N X ag;go_enter func81,ntmps81;go_wp2_with fail;refine yaj bu.o ?_;rintro e ak ⟨rfl,(aI:V _),aC,b9⟩;clear b9;have bN:V (Kept P (P+1) w ak):=(eZ HK.o).trans aC;have bl:V _:=fJ HO.o aC λ_ e=>.inr (i4 ((eF HO.o e).1));have bi:V (∀o,ak.cell? ⟨w.heap.size,o,none⟩=(w.alloc (fB a1 Y c1 K ae c2 a3 aa c3)).cell? ⟨w.heap.size,o,none⟩):=λo=>aC.cell (p:=⟨w.heap.size,o,none⟩) xac (by show ¬(P<=w.heap.size/\w.heap.size<P+1);have:=an.o;omega);have ax:ak.cell? ⟨w.heap.size,1,none⟩=some (.slice K ae c2):=by rw[bi.o];obtain⟨_,_,aV,_⟩:=ao.o;exact aV
 clear aC HK HO bu bi ao;go_wp2_with fail;go_loopw [8] (λt W=>∃k:Nat,k<=ae/\t=ih k/\V (r=lS vs q x (ae-k) k)/\W=ak) (λt _=>ae-(intOf t).toNat)
 case atStart=>exact⟨0,yae,rfl,Z.o,rfl⟩
 case round=>
  obtain⟨k,J,rfl,au,rfl⟩:=hrel;by_cases aY:k<ae
  ·have aD:(x+k)%ae<ae:=Nat.mod_lt _ xaa;obtain⟨g,ce,aX,bB,bx,bf⟩:=gQ bl.o HL.o aD;cases aX;have aJ:=bf.c1;have u:((x:Int)+k)%(ae:Int)=(((x+k)%ae:Nat):Int):=by rw[Int.natCast_emod,Int.natCast_add]
   have HR:V (r=if (vs.getD ((x+k)%ae) i0).len=q then (((x+k)%ae:Nat):Int)else lS vs q x (ae-(k+1)) (k+1)):=by
    have e:ae-k=(ae-(k+1))+1:=xaa;have:=au.o;rw[e,lS,HL.o]at this;exact this
   clear au bf;generalize (vs.getD ((x+k)%ae) i0).len=z at aJ HR;generalize (x+k)%ae=j at aD aJ HR u;by_cases b5:z=q
   ·subst b5;have m:V (r=(j:Int)):=HR.o.trans (iv rfl);clear HR Z;go_wp2;go_ret;exact⟨by rw[m.o,<-u];rfl,aI.o,bN.o⟩
   have m:V _:=HR.o.trans (ip b5);clear HR Z;go_wp2;go_roundw;exact⟨k+1,by omega,by go_num,m.o,trivial⟩;simp[intOf];omega
  have bO:k=ae:=xaa;have m:V (r=-1):=by have:=au.o;rw[bO,Nat.sub_self,lS]at this;exact this
  clear au Z bO;go_wp2;go_ret;exact⟨jL m.o,aI.o,bN.o⟩
theorem BE(h:RdF w P a n cap i bs):
  Calls prog 61 #[ge P] w λe O=>e=.returned (ih ((bs.length:Int)-i))/\Kept 0 0 w O:=by
 have aj:=h.c0;have B:=h.c1;have hn:=h.small;have hi:=h.hi;have ag:V (n=bs.length):=h.ys.len.symm;clear h;go_enter func61,ntmps61;go_wp2;go_quiet (fail)
 go_wp2;go_ret;exact⟨by rw[<-ag.o];rfl,eJ _ _ _ _⟩
def P6(op len C:Int)(K:Nat)(xa xb xc:List Nat):List Nat:=
 if rG op len C xa.length xb.length xc.length then (List.range len.toNat).map (PU op C K xa xb xc) else[]
end
section
variable{v:Vl}{w aK ak aM F:World}{q P ay Y ad aa base ah cap cap' l h':Nat}{xs an ins outs:List Int}{R U K a2':Option Addr}{R' H:Option Nat}{vs vs2:List Vl}
theorem i5{p}[Decidable p]{a b:List Vl×Int}(aB:-1<=a.2)(hb:-1<=b.2):-1<=(if p then a else b).2:=by
 grind
theorem LU(n d p q aZ):-1<=(chM n d p q aZ).2:=by
 unfold chM;grind
theorem Nl(i v aA S aC aZ)(g:-1<=aA)(aj:-1<=S):-1<=(mvM i v aA S aC aZ).2:=by
 have z:∀{l:List Vl},-1<=(l,(-1:Int)).2:=by simp
 have n:∀{l:List Vl}{m:Nat},-1<=(l,(m:Int)).2:=xaa;unfold mvM yC yD yE yG;exact i5 z (i5 (i5 aj (i5 g n)) (i5 (i5 g (i5 n n)) (i5 (i5 (i5 z n) (i5 n n)) (i5 (i5 (i5 z n) (i5 n n)) (i5 (LU _ _ _ _ _) (i5 (i5 z (LU _ _ _ _ _)) (i5 n n)))))))
theorem FQ{j}(h:∀i,-1<=an.getD i 0):-1<=ovs v an q j:=by
 unfold ovs;grind
theorem xh(vs x t):∀k i,-1<=(jst vs x t k).2.getD i 0
 |0,i=>by
  unfold jst
  grind
 |k+1,i=>by
  have O:=xh vs x t k
  unfold jst
  simp only
  rw[yai,List.getElem?_set]
  split
  ·split<;>simp_all[jmv,Nl,FQ]<;>grind
  simp_all
theorem BF(vs x t):∀k i,x+k<i->i<vs.length->(jst vs x t k).2.getD i 0=-1
 |0,i,h,hi=>by
  unfold jst
  grind
 |k+1,i,h,hi=>by
  unfold jst
  simp only
  rw[yai,List.getElem?_set,ip xaa,<-yai]
  exact BF _ x t k i xaa hi
theorem FR{i y}(h:xs.getD i 0=y)(hi:i<xs.length):xs.set i y=xs:=by
 exact xid
theorem FS(vs x t k)(hi:x+1+k<vs.length)(h:∀j,j<cnt (vs.getD (x+1+k) i0).op->(jst vs x t k).2.getD (fld (vs.getD (x+1+k) i0) j).toNat 0=-1):jst vs x t (k+1)=jst vs x t k:=by
 have e:∀j,ovs _ _ _ j=-1:=λj=>by
  unfold ovs;split
  ·exact h j (by assumption)
  ·rfl
 have be:jmv vs (x+1+k) (jst vs x t k)=([],-1):=by grind[jmv,mvM]
 conv=>lhs;unfold jst
 rw[be];simp only[List.append_nil];grind[FR,BF]
def rK(v:Vl)(mv:List Int)(q:Nat):Bool:=(List.range q).any λj=>decide (0<=mv.getD (fld v j).toNat 0)
theorem CP(v an q):rK v an (q+1)=(rK v an q||decide (0<=an.getD (fld v q).toNat 0)):=by
 simp_all[rK,List.range_succ]
theorem AL(h:rK v an q=false)(az:∀i,-1<=an.getD i 0):∀j,j<q->an.getD (fld v j).toNat 0=-1:=λj hj=>by
 unfold rK at h
 grind
theorem CQ(h:rK v an (cnt v.op)=true):¬(ovs v an (cnt v.op) 0=-1/\ovs v an (cnt v.op) 1=-1/\ovs v an (cnt v.op) 2=-1):=by
 rintro⟨aj,B,N⟩;unfold rK at h;rw[List.any_eq_true]at h;obtain⟨j,hj,aN⟩:=h;have z:=List.mem_range.1 hj;grind[ovs,fld]
theorem SG.put2{m1 m3}(h:SG w P R m1 ad U m3 ah vs base H K cap)(k:Kept 0 0 w aK)
  (own:ak.ownsRow base 79 6 (.slice a2' vs2.length cap') vs2.length (fU vs2)) (j:(Value.slice a2' vs2.length cap').ownBlock=R') (s:StQ (λ_=>False) H aK R' ak) (aC:Kept l h' ak aM) (ag:w.heap.size<=l) (X:∀g,R'=some g->g<l\/h'<=g):
  SG (fk aM P (.slice R m1 ad) (.slice a2' vs2.length cap') (.slice U m3 ah)) P R m1 ad U m3 ah vs2 base R' a2' cap'/\StQ (λi=>i=P) H w R' (fk aM P (.slice R m1 ad) (.slice a2' vs2.length cap') (.slice U m3 ah)):=by
 have aY:=h.lt;have b9:=k.size
 have bc:R'≠some P:=by
  rcases s.row with e|⟨r,e,au⟩
  ·rw[e];exact h.ne
  grind
 have hb:=s.chg.block P xaa (by rintro (c|c);exact c;exact h.ne c);have cf:P<ak.heap.size:=by grind
 have cJ:=(aC.block P cf xaa).trans hb;have e:∀o,_:=λo=>(World.cell?_of_block cJ).trans (k.cell (p:=⟨P,o,none⟩) h.lt xaa);have x:∀o,_:=λo=>(World.frozen?_of_block cJ).trans (k.frozen (p:=⟨P,o,none⟩) h.lt xaa);obtain⟨a8,aJ,aP⟩:=fd _ P _ _ _ ((e 0).trans h.c0) ((e 1).trans h.c1) ((e 2).trans h.c2) (.slice R m1 ad) (.slice a2' vs2.length cap') (.slice U m3 ah);have aS:=fy aM P (.slice R m1 ad) (.slice a2' vs2.length cap') (.slice U m3 ah);have b:(Value.slice a2' vs2.length cap').ownBlock≠some P:=by grind
 refine⟨⟨?_,λo=>?_,a8,aJ,aP,eH (eH (eH (fJ own aC (λg az=>X g (j ▸ az))) b) b) b,j,bc,?_⟩,⟨?_,?_,?_,?_,λi hi hn=>?_⟩,?_⟩
 ·have:=aS.size;grind[fk]
 ·unfold fk;simp[x o,h.free o]
 ·have:=aS.size;have:=s.chg.size;have:=h.sz;have:=aC.size;unfold fk;omega
 ·exact aS.os.trans (aC.os.trans (s.chg.os.trans k.os))
 ·exact aS.tape.trans (aC.tape.trans (s.chg.tape.trans k.tape))
 ·exact aS.output.trans (aC.output.trans (s.chg.output.trans k.output))
 ·have:=aS.size;have:=s.chg.size;have:=aC.size;unfold fk;omega
 ·unfold fk;have aV:=s.chg.size;have bg:=aC.size;rw[aS.block i xaa (λc=>hn (.inl xaa)),aC.block i xaa xaa,s.chg.block i xaa (by grind)];exact k.block i hi xaa
 rcases s.row with c|⟨r,c,au⟩<;>grind
theorem cG.qcm(h:Zp:=by
 have hb:v.ownBlock=some g:=jL ad
 rw[s.chg.block g az (by simp_all)];exact a6):Zp:=h
open cG in
theorem r7{e size n:Nat}{v xs W}(o:W.ownsRow base e size v n xs)(s:StQ (λi=>i=P) H W R' F)(hP:v.ownBlock≠some P)(X:∀g,v.ownBlock=some g->H≠some g):F.ownsRow base e size v n xs:=by
 exact qcl
theorem IR.stq{W I}(h:IR W I xs)(s:StQ (λi=>i=P) H W R' F)(hP:I≠P)(X:H≠some I):IR F I xs:=by
 unfold IR;rw[s.chg.block I h.lt (by grind)];exact h
structure LJ(w W:World)(Mb:Nat)(b1:Option Addr)(n1 e1:Nat)(b3:Option Addr)(n3 e3:Nat)(ins outs:List Int)(vs:List Vl)(mv:List Int)(base:Nat)(R:Option Nat)(a2:Option Addr)(cap:Nat):Prop where
 g:SG W w.heap.size b1 n1 e1 b3 n3 e3 vs base R a2 cap
 b:RB W (w.heap.size+1) (.slice none 0 0) (.slice none 0 0) (.slice none 0 0)
 m:IR W Mb mv
 i:W.ownsRow base 3 1 (.slice b1 n1 e1) n1 (ins.map (Value.int .i64))
 o:W.ownsRow base 3 1 (.slice b3 n3 e3) n3 (outs.map (Value.int .i64))
 k:Kept 0 0 w W
 hb:w.heap.size+1+1<=base
 dM:base<=Mb
 rM:R≠some Mb
 a1:Apart (.slice b1 n1 e1) (.slice a2 vs.length cap)
 a3:Apart (.slice b3 n3 e3) (.slice a2 vs.length cap)
 a4:Apart (.slice b1 n1 e1) (.slice b3 n3 e3)
 m1:(Value.slice b1 n1 e1).ownBlock≠some Mb
 m3:(Value.slice b3 n3 e3).ownBlock≠some Mb
theorem LJ.keep{W}(h:LJ w W ay R Y ad U aa ah ins outs vs an base H K cap)(k:Kept 0 0 W F):LJ w F ay R Y ad U aa ah ins outs vs an base H K cap:=
 {h with g:=h.g.keep k,b:=h.b.keep k,m:=h.m.keep k yaa,i:=eN h.i k,o:=eN h.o k,k:=h.k.trans k}
theorem LJ.set{W}(h:LJ w W ay R Y ad U aa ah ins outs vs an base H K cap)(j r):LJ w (W.setCell ⟨ay,j,none⟩ (ih r)) ay R Y ad U aa ah ins outs vs (an.set j r) base H K cap:=by
 have hP:ay≠w.heap.size:=jj h.hb h.dM
 have aj:ay≠w.heap.size+1:=jj h.hb h.dM
 have c:∀I o,ay≠I->(W.setCell ⟨_,j,_⟩ (ih r)).cell? _=W.cell? ⟨I,o,_⟩:=λI o aZ=>eG _ _ _ _ _ _ (.inl aZ);obtain⟨aL,bm,aW,bd,bC,bH,bJ⟩:=h.b
 exact {
  g:=⟨by simpa using h.g.lt,λo=>by simp[h.g.free o],by rw[c _ _ hP];exact h.g.c0,by rw[c _ _ hP];exact h.g.c1,by rw[c _ _ hP];exact h.g.c2,eH h.g.own (jn h.g.row h.rM),h.g.row,h.g.ne,by simpa using h.g.sz⟩
  b:=⟨by simpa using aL,by rw[c _ _ aj];exact bm,by rw[c _ _ aj];exact aW,by rw[c _ _ aj];exact bd,by simp[bC],by simp[bH],by simp[bJ]⟩
  m:=h.m.set j r
  i:=eH h.i h.m1
  o:=eH h.o h.m3
  k:=sO w W h.k _ j _ (jj h.hb h.dM)
  hb:=h.hb,dM:=h.dM,rM:=h.rM,a1:=h.a1,a3:=h.a3,a4:=h.a4,m1:=h.m1,m3:=h.m3}
theorem aL.qbe(h:Zp:=by
 exact {
  g:=ax
  b:=h.b.stq aF xaa f
  m:=h.m.stq aF (jj h.hb h.dM) h.rM
  i:=r7 h.i aF ct ca
  o:=r7 h.o aF ck cy
  k:=Chg.kept h.k aF.chg (by
   rintro i (c|c)
   ·omega
   ·have:=(eF h.g.own (h.g.row.trans c)).1;have:=h.hb;omega)
  hb:=h.hb
  dM:=h.dM
  rM:=d _ h.m.lt h.rM
  a1:=ew
  a3:=Z
  a4:=h.a4
  m1:=h.m1
  m3:=h.m3}):Zp:=h
open aL in
theorem LJ.step{W}(h:LJ w W ay R Y ad U aa ah ins outs vs an base H K cap)(k:Kept 0 0 W aK)
  (own:ak.ownsRow base 79 6 (.slice a2' vs2.length cap') vs2.length (fU vs2)) (j:(Value.slice a2' vs2.length cap').ownBlock=R') (s:StQ (λ_=>False) H aK R' ak) (aC:Kept l h' ak aM) (ag:W.heap.size<=l) (X:∀g,R'=some g->g<l\/h'<=g):
  LJ w (fk aM w.heap.size (.slice R Y ad) (.slice a2' vs2.length cap') (.slice U aa ah)) ay R Y ad U aa ah ins outs vs2 an base R' a2' cap':=by
 obtain⟨ax,aF⟩:=h.g.put2 k own j s aC ag X;have b5:=k.size;exact qbd
end
section
attribute[local go_sem] eE eC eB
variable{w:World}{ay Y ad aa ah base cap I:Nat}{R U K:Option Addr}{ins outs an:List Int}{vs:List Vl}{H:Option Nat}
theorem LJ.read{W}(h:LJ w W ay R Y ad U aa ah ins outs vs an base H K cap)(hn:0<vs.length):
  ∃g,K=some ⟨g,0,none⟩/\H=some g/\g<W.heap.size/\∀j,j<vs.length->At W g (j*6) (vs.getD j i0):=by
 exact xgy
theorem cA.qci(h:Zp:=by
 have hP:∀o,_:=λo=>l.cell (p:=⟨w.heap.size,o,none⟩) b9 xaa
 have d:RB F (w.heap.size+1) (.slice none 0 0) (.slice none 0 0) (.slice none 0 0):=by
  obtain⟨aL,bm,aW,bd,bC,bH,bJ⟩:=X.keep k;refine RB.keep ?_ l;exact xdr
 have aV:=k.size;have bg:=aS.size;subst hn
 exact {
  g:=⟨yak b9 l.size,λo=>by
    rw[l.frozen b9 xaa]
    unfold fk
    simp[k.frozen (p:=⟨w.heap.size,o,none⟩) bR.sz xaa,br o],jn hP a8,jn hP aJ,jn hP aP,p2,rfl,λc=>by grind,by
    have:=l.size
    grind[fk]⟩
  b:=d
  m:=b1
  i:=bn
  o:=bb
  k:=(Kept.new (cU.trans k) aS yad).trans l
  hb:=xaa
  dM:=by
   grind[fk]
  rM:=λc=>by
   grind[fk]
  a1:=λI B N=>ax I N B
  a3:=λI B N=>aF I N B
  a4:=bv
  m1:=λc=>by
   grind[fk]
  m3:=λc=>by
   grind[fk]}):Zp:=h
theorem cA.qep(h:Zp:=by
 have G:∀{e size n:Nat}{v:Value}{xs:List _},aK.ownsRow ((w.alloc g).alloc fO).heap.size e size v n _->F.ownsRow _ e _ v n xs/\(∀I,v.ownBlock=some I->w.heap.size+1+1<=I/\I<aK.heap.size):=λh=>
  ⟨eN (fJ h aS (λb hb=>i4 ((eF h hb).1))) l,λI aZ=>i4 (eF h aZ)⟩
 exact qch):Zp:=h
open cA in
theorem LJ.start{aK ae aX bk ab g u0 u1 u2}(hn:vs.length=ae)
  (bR:G0 ((w.alloc g).alloc fO) w.heap.size u0 u1 u2) (br:∀o,((w.alloc g).alloc fO).frozen? ⟨w.heap.size,o,none⟩=false) (X:RB ((w.alloc g).alloc fO) (w.heap.size+1) (.slice none 0 0) (.slice none 0 0) (.slice none 0 0)) (k:Kept 0 0 ((w.alloc g).alloc fO) aK)
  (cy:aK.ownsRow ((w.alloc g).alloc fO).heap.size 3 1 (.slice R Y aX) Y (ins.map (Value.int .i64))) (ck:aK.ownsRow ((w.alloc g).alloc fO).heap.size 79 6 (.slice K ae bk) ae (fU vs)) (Z:aK.ownsRow ((w.alloc g).alloc fO).heap.size 3 1 (.slice U aa ab) aa (outs.map (Value.int .i64)))
  (ax:Apart (.slice K ae bk) (.slice R Y aX)) (aF:Apart (.slice K ae bk) (.slice U aa ab)) (bv:Apart (.slice R Y aX) (.slice U aa ab)):
  ∀F,IR F (fk aK w.heap.size (.slice R Y aX) (.slice K ae bk) (.slice U aa ab)).heap.size (List.replicate ae 0)->Kept 0 0 (fk aK w.heap.size (.slice R Y aX) (.slice K ae bk) (.slice U aa ab)) F->
   LJ w F (fk aK w.heap.size (.slice R Y aX) (.slice K ae bk) (.slice U aa ab)).heap.size R Y aX U aa ab ins outs vs (List.replicate ae 0) ((w.alloc g).alloc fO).heap.size (Value.slice K ae bk).ownBlock K bk:=by
 intro F b1 l;have b5:((w.alloc g).alloc fO).heap.size=w.heap.size+1+1:=by simp
 exact qeo
structure Oth(w:World)(Mb:Nat)(b1:Option Addr)(n1 e1:Nat)(b3:Option Addr)(n3 e3:Nat)(R:Option Nat)(B:Nat):Prop where
 p:w.heap.size+1+1<=B
 m:Mb≠B
 r:R≠some B
 i:(Value.slice b1 n1 e1).ownBlock≠some B
 o:(Value.slice b3 n3 e3).ownBlock≠some B
theorem LJ.oth{W}(h:LJ w W ay R Y ad U aa ah ins outs vs an base H K cap)(aZ:W.heap.size<=I):Oth w ay R Y ad U aa ah H I where
 p:=i4 h.b.sz
 m:=i4 h.m.lt
 r:=λc=>by have:=(eF h.g.own (h.g.row.trans c)).2;omega
 i:=λc=>i4 ((eF h.i c).2)
 o:=λc=>i4 ((eF h.o c).2)
theorem cM.qct(h:Zp:=by
 exact {
  g:=⟨by simpa using h.g.lt,λo=>by simp[h.g.free o],by rw[c _ _ xaa];exact h.g.c0,by rw[c _ _ xaa];exact h.g.c1,by rw[c _ _ xaa];exact h.g.c2,eH h.g.own (jn h.g.row t.r),h.g.row,h.g.ne,by simpa using h.g.sz⟩
  b:=⟨by simpa using aL,by rw[c _ _ xaa];exact bm,by rw[c _ _ xaa];exact aW,by rw[c _ _ xaa];exact bd,by simp[bC],by simp[bH],by simp[bJ]⟩
  m:=by
   unfold IR
   rw[Below.heap_setCell W _ u _ t.m]
   exact h.m
  i:=eH h.i t.i
  o:=eH h.o t.o
  k:=sO w W h.k I j _ xaa
  hb:=h.hb,dM:=h.dM,rM:=h.rM,a1:=h.a1,a3:=h.a3,a4:=h.a4,m1:=h.m1,m3:=h.m3}):Zp:=h
open cM in
theorem LJ.other{W}(h:LJ w W ay R Y ad U aa ah ins outs vs an base H K cap)(t:Oth w ay R Y ad U aa ah H I)(j u):LJ w (W.setCell ⟨I,j,none⟩ u) ay R Y ad U aa ah ins outs vs an base H K cap:=by
 exact qcs
theorem ir3(w:World)(a b c):IR (w.alloc (.cells #[ih a,ih b,ih c] 3)) w.heap.size [a,b,c]:=by
 unfold IR;rw[heap_alloc_new];rfl
theorem FT(v an q)(am:q<3):([ovs v an q 0,ovs v an q 1,ovs v an q 2]:List Int).set q (an.getD (fld v q).toNat 0)=[ovs v an (q+1) 0,ovs v an (q+1) 1,ovs v an (q+1) 2]:=by
 grind[ovs]
theorem FU(vs x t s)(h:s≠x)(aw:s<vs.length):(jst vs x t 0).2.getD s 0=-1:=by
 unfold jst;grind
theorem LJ.fin{W F}(h:LJ w W ay R Y ad U aa ah ins outs vs an base H K cap)(k:Kept 0 0 W F):
  ((fk F (w.heap.size+1) (.slice R Y ad) (.slice K vs.length cap) (.slice U aa ah)).ownsRow w.heap.size 3 1 (.slice R Y ad) Y (ins.map (Value.int .i64))/\(fk F (w.heap.size+1) (.slice R Y ad) (.slice K vs.length cap) (.slice U aa ah)).ownsRow w.heap.size 79 6 (.slice K vs.length cap) vs.length (fU vs)/\(fk F (w.heap.size+1) (.slice R Y ad) (.slice K vs.length cap) (.slice U aa ah)).ownsRow w.heap.size 3 1 (.slice U aa ah) aa (outs.map (Value.int .i64)))/\Kept 0 0 w (fk F (w.heap.size+1) (.slice R Y ad) (.slice K vs.length cap) (.slice U aa ah)):=by
 exact xcx
theorem LJ.call{w W aq ay Y ad aa ah base cap R U K ins outs an vs H}(h:LJ w W ay R Y ad U aa ah ins outs vs an base H K cap)(k:Kept 0 0 W aq)(u)(hn:vs.length<=1000000):
  Calls prog 59 #[eX R Y ad K vs.length cap U aa ah,u.agg] aq λe ak=>∃aI cap',e=.returned (eX R Y ad (some ⟨aI,0,none⟩) (vs.length+1) cap' U aa ah)/\
   (∃u,ak.cell? ⟨w.heap.size,0,none⟩=some u)/\(∃u,ak.cell? ⟨w.heap.size,1,none⟩=some u)/\(∃u,ak.cell? ⟨w.heap.size,2,none⟩=some u)/\(∀o,ak.frozen? ⟨w.heap.size,o,none⟩=false)/\
   V (LJ w (fk ak w.heap.size (.slice R Y ad) (ia aI (vs.length+1) cap') (.slice U aa ah)) ay R Y ad U aa ah ins outs (vs++[u]) an base (some aI) (some ⟨aI,0,none⟩) cap'):=by
 exact xbl
theorem AM{i}(h:okV ins vs i=true):0<=(vs.getD i i0).op/\(vs.getD i i0).op<=13:=by
 grind[okV,qO]
theorem AN(w a1 K a3 Y c1 ae c2 aa c3 ins vs outs)(f:GS w a1 Y K ae a3 aa ins vs outs)(ag:∀k,k<ae->1<=(vs.getD k i0).len/\(vs.getD k i0).len<=1000):
  Calls prog 120 #[eX a1 Y c1 K ae c2 a3 aa c3] w λe O=>e=.returned (.bool (!kq vs))/\Kept 0 0 w O:=by
 have hn:=f.v.len;have bj:=eA 0 0 w (fB a1 Y c1 K ae c2 a3 aa c3);by_cases N:ae<=2000
 ·have bA:V _:=Bx _ _ _ _ _ c1 _ c2 _ c3 _ _ _ (f.keep bj) N ag;have HK:V _:=bj;have aW:((ae:Int)<=2000):=xaa;by_cases ai:eY vs<=50000
  ·have e:kq vs=false:=by grind[kq]
   rw[e];have bd:=decide_eq_true ai;exact xeh
  have e:kq vs=true:=by grind[kq]
  rw[e];have bd:=yay ai;exact xeh
 have e:kq vs=true:=by grind[kq]
 rw[e];have aW:¬((ae:Int)<=2000):=xaa;clear f ag hn e;go_enter func120,ntmps120;go_wp2;go_ret;exact⟨rfl,bj⟩
end
section
def l3n(x:Nat):List UInt8:=if x%10<6 then gJ (x/10%6)else if x%10=6 then gJ x++[46,53]else if x%10=7 then[48,46]++gJ x else if x%10=8 then[49]else ([48,48]++gJ x)++[46,50,53,48,48]
theorem AO(w P a n cap i bs)(f:RdF w P a n cap i bs):
  Calls prog 121 #[ge P] w λe O=>e=.returned (eL (l3n (nv bs i)))/\RdF O P a n cap (ni bs i) bs/\Kept P (P+1) w O/\O.heap.size=w.heap.size:=by
 have bu:V _:=iD w P a n _ i _ f;have aH:=fD f.ys i;generalize nv _ i=x at bu aH⊢;have HD:V _:=yB x x yad xaa;have aS:V (∀W:World,Calls _ _ #[.int _ (x/10%6)] W _):=yB _ (x/10%6) yad xaa;have HL:V ((gJ x).length<=300):=by have:=jC x;show _<=_;omega
 clear f;unfold l3n;rcases (by omega:x%10<6\/x%10=6\/x%10=7\/x%10=8\/x%10=9) with c|c|c|c|c
 ·rw[iv c];have c1:(x:Int)%10<6:=xaa;unfold eL at aS⊢;go_enter func121,ntmps121;go_wp2_with (first|(go_at_call 11;refine yaj bu.o ?_;rintro e aK ⟨rfl,au,ap,aV⟩)|(go_at_call 89;refine yaj (aS.o _) ?_;rintro e ak ⟨rfl,rfl⟩));go_ret;exact⟨rfl,au,ap,aV⟩
 ·rw[ip xaa,iv c];have c1:(x:Int)%10=6:=xaa;unfold eL at HD⊢;rw[<-sS]
  have b5:¬(9223372036854775807<(⟨(gJ x).toArray⟩:ByteArray).size+(⟨#[46,53]⟩:ByteArray).size):=by
   rw[fX];have:=HL.o;simp[ByteArray.size];omega
  exact xdt
 ·rw[ip xaa,ip xaa,iv c];have c1:(x:Int)%10=7:=xaa;unfold eL at HD⊢;rw[<-sS]
  have b5:¬(9223372036854775807<(⟨#[48,46]⟩:ByteArray).size+(⟨(gJ x).toArray⟩:ByteArray).size):=by
   rw[fX];have:=HL.o;simp[ByteArray.size];omega
  exact xdt
 ·rw[ip xaa,ip xaa,ip xaa,iv c];have c1:(x:Int)%10=8:=xaa;go_enter func121,ntmps121;go_wp2_with (go_at_call 11;refine yaj bu.o ?_;rintro e aK ⟨rfl,au,ap,aV⟩);go_ret;exact⟨rfl,au,ap,aV⟩
 rw[ip xaa,ip xaa,ip xaa,ip xaa];have c1:(x:Int)%10=9:=xaa;unfold eL at HD⊢;rw[<-sS,<-sS]
 have b5:¬(9223372036854775807<(⟨#[48,48]⟩:ByteArray).size+(⟨(gJ x).toArray⟩:ByteArray).size):=by
  rw[fX];have:=HL.o;simp[ByteArray.size];omega
 have cc:¬(9223372036854775807<((⟨#[48,48]⟩:ByteArray)++(⟨(gJ x).toArray⟩:ByteArray)).size+(⟨#[46,50,53,48,48]⟩:ByteArray).size):=by
  rw[yar,fX];have:=HL.o;simp[ByteArray.size];omega
 generalize (⟨_⟩:ByteArray)=b at HD b5 cc⊢;exact xcn
end
section
attribute[local go_sem] eE eC eB
variable{w W F:World}{P n cap i nE cE:Nat}{a aE:Option Addr}{bs:List Int}{env:List (List UInt8×Int)}
structure En(w:World)(P:Nat)(aE:Option Addr)(nE:Nat)(env:List (List UInt8×Int)):Prop where
 len:env.length=nE
 le:nE<=100
 at_:∀k,k<nE->∃g,aE=some ⟨g,0,none⟩/\P<g/\g<w.heap.size/\w.cell? ⟨g,k*2,none⟩=some (eL (env.getD k ([],0)).1)/\w.cell? ⟨g,k*2+1,none⟩=some (.int .i64 (env.getD k ([],0)).2)
theorem En.keep(f:En w P aE nE env)(k:Kept P (P+1) w W):En W P aE nE env:=
 ⟨f.len,f.le,λj hj=>by
  obtain⟨g,e,B,N,c0,c1⟩:=f.at_ j hj
  exact⟨g,e,B,yak N k.size,(k.cell N (by show ¬(P<=g/\g<P+1);omega)).trans c0,(k.cell N (by show ¬(P<=g/\g<P+1);omega)).trans c1⟩⟩
theorem En.keep0(f:En w P aE nE env)(k:Kept 0 0 w W):En W P aE nE env:=f.keep (eZ k)
def ofG(env:List (List UInt8×Int))(q:Int)(c:Nat):Nat->Nat->List UInt8
 |0,_=>[]
 |m+1,k=>if (env.getD ((k+c)%env.length) ([],0)).2=q then (env.getD ((k+c)%env.length) ([],0)).1 else ofG env q c m (k+1)
def ofM(env:List (List UInt8×Int))(q:Int)(c:Nat):List UInt8:=ofG env q c env.length 0
theorem Nm(f:En w P aE nE env)(X:RdF w P a n cap i bs)(q):
  Calls prog 107 #[.slice aE nE cE,ih q,ge P] w λe O=>e=.returned (eL (ofM env q (nv bs i)))/\RdF O P a n cap (ni bs i) bs/\Kept P (P+1) w O:=by
 have v:=fD X.ys i;have bu:V _:=iD w P a n _ i _ X;have aO:V _:=f;have Z:V (ofM env q (nv bs i)=ofG env q (nv bs i) (nE-0) 0):=by show ofG _ _ _ _ _=_;rw[f.len];rfl
 have hn:=f.le;generalize ofM _ q _=r at Z⊢;generalize nv _ i=x at bu Z v;clear f X;go_enter func107,ntmps107;go_wp2_with fail;refine yaj bu.o ?_;rintro e ak ⟨rfl,(aI:V _),(bN:V _),b9⟩;clear b9 bu;have d:V _:=aO.o.keep bN.o;clear aO;go_wp2_with fail;go_loopw [8] (λt W=>∃k:Nat,k<=nE/\t=ih k/\V (r=ofG env q x (nE-k) k)/\V (Kept 0 0 ak W)) (λt _=>nE-(intOf t).toNat)
 case atStart=>exact⟨0,yae,rfl,Z.o,i3⟩
 case round=>
  obtain⟨k,J,rfl,au,aS⟩:=hrel;by_cases aY:k<nE
  ·have aD:(k+x)%nE<nE:=Nat.mod_lt _ xaa;obtain⟨g,aX,bB,bx,a8,aJ⟩:=(d.o.keep0 aS.o).at_ _ aD;have u:(k+(x:Int))%nE=((k+x)%nE:Nat):=by rw[Int.natCast_emod,Int.natCast_add]
   have HR:V (r=if (env.getD ((k+x)%nE) ([],0)).2=q then (env.getD ((k+x)%nE) ([],0)).1 else ofG env q x (nE-(k+1)) (k+1)):=by
    have e:nE-k=(nE-(k+1))+1:=xaa;have:=au.o;rw[e,ofG,d.o.len]at this;exact this
   clear au;subst aX;generalize env.getD _ _=z at a8 aJ HR;generalize (k+x)%nE=j at aD a8 aJ HR u;obtain⟨aV,bg⟩:=z;simp only at a8 aJ HR;have aa:V (Kept 0 0 _ (wr.alloc (.cells #[eL aV,ih bg] 138))):=aS.o.trans (eA 0 0 _ _);by_cases b5:bg=q
   ·subst b5;have m:V _:=HR.o.trans (iv rfl);clear HR Z;go_wp2;go_ret;exact⟨jL m.o,aI.o.keep0 aa.o,bN.o.trans (eZ aa.o)⟩
   have m:V _:=HR.o.trans (ip b5);clear HR Z;go_wp2;go_roundw;exact⟨k+1,by omega,by go_num,m.o,aa⟩;simp[intOf];omega
  have bO:k=nE:=xaa;have m:V (r=[]):=by have:=au.o;rw[bO,Nat.sub_self,ofG]at this;exact this
  clear au Z bO;go_wp2;go_ret;exact⟨jL m.o,aI.o.keep0 aS.o,bN.o.trans (eZ aS.o)⟩
structure Xd where
 w:World
 P:Nat
 n:Nat
 cap:Nat
 nE:Nat
 cE:Nat
 a:Option Addr
 aE:Option Addr
structure Sd(X:Xd)(env:List (List UInt8×Int))(bs:List Int)(i:Nat)(W:World):Prop where
 rd:RdF W X.P X.a X.n X.cap i bs
 en:En W X.P X.aE X.nE env
 kp:Kept X.P (X.P+1) X.w W
variable{X:Xd}{W F:World}{env:List (List UInt8×Int)}{bs:List Int}{i j:Nat}
theorem Sd.go(h:Sd X env bs i W)(r:RdF F X.P X.a X.n X.cap j bs)(k:Kept X.P (X.P+1) W F):Sd X env bs j F:=⟨r,h.en.keep k,h.kp.trans k⟩
theorem Sd.keep0(h:Sd X env bs i W)(k:Kept 0 0 W F):Sd X env bs i F:=h.go (h.rd.keep0 k) (eZ k)
def Tx(X:Xd)(env:List (List UInt8×Int))(bs:List Int)(j:Nat)(v:Value)(e:Ending)(w':World):Prop:=e=.returned v/\Sd X env bs j w'
theorem nxS(h:Sd X env bs i W):Calls prog 11 #[ge X.P] W (Tx X env bs (ni bs i) (ih (nv bs i:Int))):=
 (iD W X.P X.a X.n X.cap i bs h.rd).mono λ_ _ ⟨e,r,k,_⟩=>⟨e,h.go r k⟩
theorem lfS(h:Sd X env bs i W):Calls prog 61 #[ge X.P] W (Tx X env bs i (ih ((bs.length:Int)-i))):=
 (BE h.rd).mono λ_ _ ⟨e,k⟩=>⟨e,h.keep0 k⟩
theorem olS(q)(h:Sd X env bs i W):Calls prog 107 #[.slice X.aE X.nE X.cE,ih q,ge X.P] W (Tx X env bs (ni bs i) (eL (ofM env q (nv bs i)))):=
 (Nm h.en h.rd q).mono λ_ _ ⟨e,r,k⟩=>⟨e,h.go r k⟩
theorem nbS(h:Sd X env bs i W):Calls prog 121 #[ge X.P] W (Tx X env bs (ni bs i) (eL (l3n (nv bs i)))):=
 (AO W X.P X.a X.n X.cap i bs h.rd).mono λ_ _ ⟨e,r,k,_⟩=>⟨e,h.go r k⟩
theorem dcS{q:Nat}(am:q<=1000)(h:Sd X env bs i W):Calls prog 89 #[ih q] W (Tx X env bs i (eL (gJ q))):=
 (yB q q yad xaa W).mono λ_ _ ⟨e,be⟩=>⟨e,be ▸ h⟩
theorem sz2{x y:ByteArray}{G:Prop}(h:x.size+y.size<=1000000)(k:¬9223372036854775807<x.size+y.size->x.size<=1000000->G):G:=k xaa xaa
theorem Nn(bY:∀x∈env,x.1.length<=5)(q c):(ofM env q c).length<=5:=by
 have h:∀m k,(ofG env q c m k).length<=5:=by
  intro m;induction m with
  |zero=>exact λ_=>by simp[ofG]
  |succ m Z=>
   intro k;rw[ofG];split
   ·rw[yai];cases e:env[(k+c)%env.length]? with
    |none=>simp
    |some x=>exact bY x (List.mem_of_getElem? e)
   exact Z _
 exact h _ _
theorem No{x}(h:x<256):(l3n x).length<=300:=by
 have:=jC x;have:=jC (x/10%6);unfold l3n;(repeat' split)<;>simp<;>omega
def Dr(env:List (List UInt8×Int))(bs:List Int)(i f:Nat)(xs:Xd->Array Value)(m:Nat)(s:ByteArray)(j:Nat):Prop:=s.size<=m/\∀X W,V (Sd X env bs i W)->Calls prog f (xs X) W (Tx X env bs j (.string s))
theorem f9{f m:Nat}{xs s}(b5:s.size<=m)(aD:m<=1000000)(h:s.size<=1000000->∀X W,V (Sd X env bs i W)->Calls prog f (xs X) W (Tx X env bs j (.string s))):Dr env bs i f xs m s j:=⟨b5,h (yao b5 aD)⟩
theorem olD(bY:∀x∈env,x.1.length<=5)(q i):∃s j,Dr env bs i 107 (λX=>#[.slice X.aE X.nE X.cE,ih q,ge X.P]) 5 s j:=⟨_,_,by rw[fX];exact Nn bY q _,λ_ _ h=>olS q h.o⟩
theorem nbD(hb:∀i,nv bs i<256)(i):∃s j,Dr env bs i 121 (λX=>#[ge X.P]) 300 s j:=⟨_,_,by rw[fX];exact No (hb i),λ_ _ h=>nbS h.o⟩
theorem dcD{q}(aj:0<=q)(h3:q<=3):∃s,∀i,Dr env bs i 89 (λ_=>#[ih q]) 5 s i:=by
 obtain⟨q,rfl⟩:=Int.eq_ofNat_of_zero_le aj;exact⟨_,λ_=>⟨by rw[fX];have:=jC q;omega,λ_ _ h=>dcS xaa h.o⟩⟩
theorem uw(s:ByteArray):s.toList=[]/\s.toList.isEmpty=true\/¬s.toList=[]/\s.toList.isEmpty=false:=by
 by_cases h:s.toList=[]
 ·exact .inl ⟨h,jL h⟩
 exact .inr ⟨h,by simp[h]⟩
theorem LV(bY:∀x∈env,x.1.length<=5)(hb:∀i,nv bs i<256)(q)(am:1<=q/\q<=3)(i):∃s j,Dr env bs i 106 (λX=>#[.slice X.aE X.nE X.cE,ih q,ge X.P]) 1000 s j:=by
 obtain⟨a0,cd,A⟩:=olD (bs:=bs) bY q i;obtain⟨av,bh,I⟩:=nbD (env:=env) hb (ni bs cd);obtain⟨aT,D⟩:=dcD (env:=env) (bs:=bs) (by omega:0<=q) am.2;have aj:=A.1;have B:=I.1;have N:=(D 0).1;rcases uw a0 with⟨bm,bd⟩|⟨bm,bd⟩<;>rcases (by omega:q=1\/¬q=1) with rfl|cu<;>rcases (by omega:(nv bs cd:Int)%4=0\/0<(nv bs cd:Int)%4) with aW|aW
 ·exact xbd
 ·exact xbd
 ·exact xav
 ·exact xav
 ·exact xbd
 ·exact xcm
 ·exact xav
 exact xcm
