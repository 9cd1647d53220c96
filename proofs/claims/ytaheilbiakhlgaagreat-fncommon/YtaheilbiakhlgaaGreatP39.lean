import Derived.Test.YtaheilbiakhlgaaGreatP32
namespace Go.Proofs.Z
variable{Zp:Prop}
open Tryz
set_option maxRecDepth 1000000
set_option maxHeartbeats 0
open Go.RowKit Flt
attribute[local go_sem] eF eE eD
variable{w:World}{I P n cap i Y m c1 c2 aa c3:Nat}{a a1 Z a3:Option Addr}{bs ins outs:List Int}{vs:List Vl}
theorem q.qad(h:Zp:=by
 obtain⟨g,b0,aU,aY,bj,bm⟩:=hH t.dg.r2 rfl h;cases aU;exact qei):Zp:=h
theorem q.qej(h:Zp:=by
 have af:(nv bs i:Int)%16=10:=hO aj.o
 clear aj;obtain⟨_,a7,aK,aP,_,_,_⟩:=au.o.bx;go_wp2_with fail;refine yai (au.o.pick hn _) ?_;rintro e b8 ⟨rfl,x,b7⟩;replace HK:V _:=HK.o.trans b7;replace au:V _:=x;clear x b7 a7 aK aP aR;obtain⟨_,a7,aK,aP,_,_,_⟩:=au.o.bx;go_wp2_with fail;refine yai (au.o.pick hn _) ?_;rintro e cf ⟨rfl,v,bW⟩;replace HK:V _:=HK.o.trans bW;replace au:V _:=v;clear v bW a7 aK aP;exact xcg):Zp:=h
open q in
theorem He(f:DG w I (.slice a1 Y c1) (.slice Z vs.length c2) (.slice a3 aa c3) ins vs outs)(C:RdF w P a n cap i bs)(hP:P<I)(hn:vs.length<=100000)(ai:0<vs.length){m}(aw:(vd vs (nv bs (ni bs i)%vs.length)).len=m)(O:nv bs i%16=10):
  Calls prog 41 #[eX a1 Y c1 Z vs.length c2 a3 aa c3,hD P] w (GwO w I P a n cap (ni bs (ni bs (ni bs (ni bs i)))) bs (.slice a1 Y c1) (.slice Z vs.length c2) (.slice a3 aa c3) ins vs outs ⟨8,m,((nv bs (ni bs i)%vs.length:Nat):Int),jU vs m (nv bs (ni bs (ni bs i))),jU vs m (nv bs (ni bs (ni bs (ni bs i)))),0⟩):=by
 exact qac
theorem r.qad(h:Zp:=by
 obtain⟨g,b0,aU,aY,bj,bm⟩:=hH t.dg.r2 rfl h;cases aU;exact qei):Zp:=h
theorem r.qej(h:Zp:=by
 have af:(nv bs i:Int)%16=12:=hO aj.o
 clear aj;exact xbr):Zp:=h
open r in
theorem D4(f:DG w I (.slice a1 Y c1) (.slice Z vs.length c2) (.slice a3 aa c3) ins vs outs)(C:RdF w P a n cap i bs)(hP:P<I)(hn:vs.length<=100000)(ai:0<vs.length)(aw:(vd vs (nv bs (ni bs i)%vs.length)).len=(m:Int))(bQ:0<m)(a5:m<=1000)(O:nv bs i%16=12):
  Calls prog 41 #[eX a1 Y c1 Z vs.length c2 a3 aa c3,hD P] w (GwO w I P a n cap (ni bs (ni bs (ni bs i))) bs (.slice a1 Y c1) (.slice Z vs.length c2) (.slice a3 aa c3) ins vs outs ⟨11,1,((nv bs (ni bs i)%vs.length:Nat):Int),0,((nv bs (ni bs (ni bs i))%m:Nat):Int),0⟩):=by
 have ak:(nv bs (ni bs (ni bs i)):Int)%(m:Int)=((nv bs (ni bs (ni bs i))%m:Nat):Int):=by rw[Int.natCast_emod]
 have y:nv bs (ni bs (ni bs i))%m<m:=Nat.mod_lt _ bQ;have K:=fU C.ys (ni bs (ni bs i));generalize nv bs (ni bs (ni bs i))%m=c at ak y⊢;have bg:V ((nv bs (ni bs (ni bs i)):Int).tmod (m:Int)=c):=(Int.tmod_eq_emod_of_nonneg xaa).trans ak;clear ak;exact qac
theorem Hf{W:World}{u}{xs:List Int}(h:W.ownsRow I 3 1 u n (xs.map (Value.int .i64)))(ah:xs.length=n){k}(O:k<n):∃g cap,u=hE g n cap/\I<=g/\g<W.heap.size/\W.cell? ⟨g,k,none⟩=some (hF (xs.getD k 0)):=by
 obtain⟨b,d,rfl⟩:=jd h;rcases sO h ah with c|⟨g,rfl,aQ,hi⟩
 ·omega
 exact⟨g,d,rfl,aQ,hi.lt,hi.at_ k O⟩
theorem jS{W:World}{c xs}{e s:Nat}(h:W.ownsRow I e s (.slice a n c) m xs):n=m:=by
 obtain⟨b,d,e⟩:=jd h;injection e
theorem aK.qba(h:Zp:=by
 rcases Nat.eq_zero_or_pos ab with bz|bz
 case' inl=>have ad:(ab:Int)<=0:=xaa
 case' inl=>clear bz
 case' inr=>have af:(nv bs i:Int)%16=0:=hO aj.o
 all_goals
  clear aj
  go_wp2_with fail
  refine yai au.o.next ?_
  rintro e W2 ⟨rfl,t,an⟩
  replace HK:V _:=HK.o.trans an
  replace au:V _:=t
  clear t an a7 aK aP
  have o:=HO.o
  have a7:=au.o.bx.q0
  have bm:¬Y=0:=xaa
  go_upto_region 6 with fail
  go_region_held3 (λJ=>J.cell? ⟨w.heap.size,0,none⟩=some (.slice a1 Y c1)) (go_keep) (first|(go_at_call 32;refine yai (au.o.keep (eG _)).next ?_;rintro e b8 ⟨rfl,x,b7⟩;have bR:=x.bx.q0))
  replace HK:V _:=HK.o.trans ((ft (eG _)).trans b7)
  replace au:V _:=x
  have az:=x.dg.r1
  rw[bU.o]at az
  obtain⟨g,b0,aU,_,bj,y⟩:=Hf az bU.o h
  cases aU
  rw[b1.o]at y
  first|rw[z.o]|rw[fj.o]
  clear x b7 a7 az
  go_wp2_with fail
  obtain⟨_,a7,aK,aP,_,_,_⟩:=au.o.bx
  go_region_with (first|(go_at_call 37;refine yai (aL.o _ _ (eK 0 l (j:Int) 0 0) au.o HK.o _ ((eG _).trans aJ) (Nat.zero_lt_succ _)) ?_;rintro e aG ⟨aA,cap',rfl,a8,aH⟩;obtain⟨_,bo,az,aZ,bl,bG,bP⟩:=a8)|(go_at_call 39;refine yai (gS _ _ _ _ _ _) ?_;rintro e aF ⟨rfl,aJ⟩;obtain⟨_,aW,aq,aN,_,_,_⟩:=(au.o.keep ((eG _).trans aJ)).bx))
  all_goals
   go_wp2_with fail
   obtain⟨bf,aO,aX⟩:=fg aG (w.heap.size+1) _ _ _ bo az aZ (hE g Y c1) (hE aA (ab+1) cap') (.slice a3 aa c3)
   exact yay (v:=eX (some ⟨g,0,none⟩) Y c1 (some ⟨aA,0,none⟩) (ab+1) cap' a3 aa c3) (by simp[results,results41,go_sem,bf,aO,aX]) rfl aH):Zp:=h
open aK in
theorem KB(f:DG w I (.slice a1 Y c1) (.slice Z vs.length c2) (.slice a3 aa c3) ins vs outs)(C:RdF w P a n cap i bs)(hP:P<I)(hn:vs.length<=100000)(B:0<Y)(ax:nv bs (ni bs i)%2=1)(O:nv bs i%16=0\/vs.length=0):
  Calls prog 41 #[eX a1 Y c1 Z vs.length c2 a3 aa c3,hD P] w (GwO w I P a n cap ((ni bs (ni bs (ni bs i)))) bs (.slice a1 Y c1) (.slice Z vs.length c2) (.slice a3 aa c3) ins vs outs ⟨0,ins.getD (nv bs (ni bs (ni bs i))%Y) 0,((nv bs (ni bs (ni bs i))%Y:Nat):Int),0,0,0⟩):=by
 have p:Y=ins.length:=jS f.r1;have hj:(nv bs (ni bs (ni bs i)):Int)%(Y:Int)=((nv bs (ni bs (ni bs i))%Y:Nat):Int):=by rw[Int.natCast_emod]
 have h:nv bs (ni bs (ni bs i))%Y<Y:=Nat.mod_lt _ B;have K:=fU C.ys (ni bs (ni bs i));generalize nv bs (ni bs (ni bs i))%Y=j at hj h⊢;have z:V ((nv bs (ni bs (ni bs i)):Int).tmod (Y:Int)=j):=(Int.tmod_eq_emod_of_nonneg xaa).trans hj;have fj:V _:=hj;have bU:V (ins.length=Y):=p.symm;have o:(nv bs (ni bs i):Int)%2=1:=xaa;have HO:V _:=o;generalize aM:ins.getD j 0=l;have b1:V _:=aM;clear hj p ax o aM;exact qaz
