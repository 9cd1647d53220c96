import Derived.Test.YtcjhlkdleojbjaaGreatP34
import Derived.Test.YtcjhlkdleojbjaaGreatP30
import Derived.Test.YtcjhlkdleojbjaaGreatP29
namespace Go.Proofs.Z
variable{Zp:Prop}
open Tryz
set_option maxRecDepth 1000000
set_option maxHeartbeats 0
open Go.RowKit Flt
attribute[local go_sem] eF eE eD
variable{w:World}{J n m1 ae m3 ai cap base bJ:Nat}{R aa U:Option Addr}{o C r bE:Int}{vs:List Vl}{H R':Option Nat}{c0 c1 c2 c3 c5 cp cr cn bd ca aM cx an cy ct cu cw:Value}
theorem IV{W:World}{u}{xs:List Int}(h:W.ownsRow J 3 1 u n (xs.map (Value.int .i64)))(af:xs.length=n){k}(O:k<n):∃g cap,u=hz g n cap/\J<=g/\g<W.heap.size/\W.cell? ⟨g,k,none⟩=some (hA (xs.getD k 0)):=by
 obtain⟨b,d,rfl⟩:=im h;rcases wM h af with c|⟨g,rfl,aJ,hi⟩
 ·omega
 exact⟨g,d,rfl,aJ,hi.lt,hi.at_ k O⟩
theorem Q.qau(h:Zp:=by
 rcases Nat.eq_zero_or_pos n2 with bv|bv
 case' inl=>have a2:(n2:Int)<=0:=xaa
 case' inl=>clear bv
 case' inr=>have u:(nv bs i:Int)%16=0:=hJ G.o
 all_goals
  clear G
  go_wp2_with fail
  refine yaj ao.o.next ?_
  rintro e bS ⟨rfl,h,ak⟩
  replace HK:E _:=HK.o.trans ak
  replace ao:E _:=h
  clear h ak aY aC aL
  have q:=HO.o
  have aY:=ao.o.bx.q0
  have aH:¬Z=0:=xaa
  go_upto_region 6 with fail
  go_region_held3 (λB=>B.cell? ⟨w.heap.size,0,none⟩=some (.slice a1 Z c1)) (go_keep) (first|(go_at_call 15;refine yaj (ao.o.keep (eG _)).next ?_;rintro e bc ⟨rfl,z,bM⟩;have bD:=z.bx.q0))
  replace HK:E _:=HK.o.trans ((e8 (eG _)).trans bM)
  replace ao:E _:=z
  have ay:=z.dg.r1
  rw[cc.o]at ay
  obtain⟨g,ce,aK,_,b8,y⟩:=IV ay cc.o X
  cases aK
  rw[bH.o]at y
  first|rw[aD.o]|rw[ei.o]
  clear z bM aY ay
  go_wp2_with fail
  obtain⟨_,aY,aC,aL,_,_,_⟩:=ao.o.bx
  go_region_with (first|(go_at_call 44;refine yaj (HF.o _ _ (eK 0 l (j:Int) 0 0) ao.o HK.o _ ((eG _).trans aR) (Nat.zero_lt_succ _)) ?_;rintro e ag ⟨aq,cap',rfl,aA,av⟩;obtain⟨_,br,ay,a0,bZ,b5,b6⟩:=aA)|(go_at_call 46;refine yaj (ij _ _ _ _ _ _) ?_;rintro e aB ⟨rfl,aR⟩;obtain⟨_,aZ,ax,aU,_,_,_⟩:=(ao.o.keep ((eG _).trans aR)).bx))
  all_goals
   go_wp2_with fail
   obtain⟨bn,aX,bb⟩:=fp ag (w.heap.size+1) _ _ _ br ay a0 (hz g Z c1) (hz aq (n2+1) cap') (.slice a3 ab c3)
   exact yaz (v:=eZ (some ⟨g,0,none⟩) Z c1 (some ⟨aq,0,none⟩) (n2+1) cap' a3 ab c3) (by simp[results,results48,go_sem,bn,aX,bb]) rfl av):Zp:=h
open Q in
theorem LW{P a i bs a1 a3 Z c1 c2 ab c3 ins outs}(f:DG w J (.slice a1 Z c1) (.slice U vs.length c2) (.slice a3 ab c3) ins vs outs)(K:RdF w P a n cap i bs)(hP:P<J)(ad:vs.length<=100000)(F:0<Z)(ho:nv bs (ni bs i)%2=1)(O:nv bs i%16=0\/vs.length=0):
  Calls prog 48 #[eZ a1 Z c1 U vs.length c2 a3 ab c3,hy P] w (GwO w J P a n cap ((ni bs (ni bs (ni bs i)))) bs (.slice a1 Z c1) (.slice U vs.length c2) (.slice a3 ab c3) ins vs outs ⟨0,ins.getD (nv bs (ni bs (ni bs i))%Z) 0,((nv bs (ni bs (ni bs i))%Z:Nat):Int),0,0,0⟩):=by
 have cM:Z=ins.length:=jy f.r1;have hj:(nv bs (ni bs (ni bs i)):Int)%(Z:Int)=((nv bs (ni bs (ni bs i))%Z:Nat):Int):=xaa;have X:nv bs (ni bs (ni bs i))%Z<Z:=Nat.mod_lt _ F;have aT:=ib K.ys (ni bs (ni bs i));generalize nv bs (ni bs (ni bs i))%Z=j at hj X⊢;have aD:E ((nv bs (ni bs (ni bs i)):Int).tmod (Z:Int)=j):=(Int.tmod_eq_emod_of_nonneg xaa).trans hj;have ei:E _:=hj;have cc:E (ins.length=Z):=cM.symm;have q:(nv bs (ni bs i):Int)%2=1:=xaa;have HO:E _:=q;generalize aO:ins.getD j 0=l;have bH:E _:=aO;clear hj cM ho q aO;exact qat
theorem IW{W vb}(HM:E (MS w W R m1 ae aa m3 ai vs ⟨o,C,r,vb,bE,bJ⟩ base H R' U cap))(au:vs.length<=900000):PfC 19 W (MpR w R m1 ae aa m3 ai vs ⟨o,C,r,vb,bE,bJ⟩ base H (eK 3 C r vb 0)) c0 c1 c2 c3 (hy w.heap.size) c5 cp cr cn bd ca (hy (w.heap.size+1+1)) (hA C) aM cx an cy ct cu cw bd ca:=by
 unfold PfC;intros;rename_i HK;have HC:E (∀az,Kept 0 0 W az->_):=λaz k=>MS.call HM.o k (eK 3 C r vb 0) xaa;have aZ:=HM.o.g.c0;have ax:=HM.o.g.c1;have aU:=HM.o.g.c2;have a7:=HM.o.v.c2;exact xbx
theorem yh{W vb aj}(HM:E (MS w W R m1 ae aa m3 ai vs ⟨o,C,r,vb,bE,bJ⟩ base H R' U cap))(au:vs.length<=900000):PfC 24 W (MpR w R m1 ae aa m3 ai vs ⟨o,C,r,vb,bE,bJ⟩ base H (eK 1 C 0 0 0)) c0 c1 c2 c3 (hy w.heap.size) c5 cp cr cn bd ca aj (hA C) aM cx an cy ct cu cw bd ca:=by
 unfold PfC;intros;rename_i HK;have HC:E (∀az,Kept 0 0 W az->_):=λaz k=>MS.call HM.o k (eK 1 C 0 0 0) xaa;have aZ:=HM.o.g.c0;have ax:=HM.o.g.c1;have aU:=HM.o.g.c2;conv=>arg 2;whnf
 go_region_with (first
  |(go_at_call 44;refine yaj (HC.o _ ((eG W).trans aw)) ?_;rintro e ag ⟨aq,cap',rfl,⟨u0,br⟩,⟨u1,ay⟩,⟨u2,a0⟩,al,_,aI⟩;have bZ:=al 0;have b5:=al 1;have b6:=al 2;clear al)
  |(go_at_call 71;refine yaj (oT _ _) ?_;rintro e aA ⟨rfl,aw⟩;have bK:=(MS.keep HM.o ((eG W).trans aw)).g.c0;have bu:=(MS.keep HM.o ((eG W).trans aw)).g.c1;have p2:=(MS.keep HM.o ((eG W).trans aw)).g.c2))
 all_goals exact HK _ ⟨_,_,_,⟨rfl,by simp⟩,by simp,aI⟩
variable{w:World}{R aa:Option Addr}{m1 ae cap m3 ai base aN i j aj:Nat}{vs:List Vl}{C r vb bE l d bg:Int}{bJ:Nat}
theorem s.qak(h:Zp:=by
 refine fk (IW HM xaa ?_);exact no_implicit_lambda% qdb):Zp:=h
theorem s.qdc(h:Zp:=by
 exact no_implicit_lambda% qfg):Zp:=h
theorem s.qfh(h:Zp:=by
 refine fk (It HM xaa ?_);exact no_implicit_lambda% xbb):Zp:=h
open s in
theorem LY(Y:MvH w cap base aN i vs ⟨7,C,r,vb,bE,bJ⟩):PtC w R aa m1 ae cap m3 ai base aN i vs 0 d ([eK 3 C r vb 0,eK 1 C 0 0 0,eK 8 C ((vs.length:Nat):Int) d (((vs.length:Nat):Int)+1)],(((vs.length:Nat):Int)+2)) true:=by
 exact qaj
variable{w:World}{R aa:Option Addr}{m1 ae cap m3 ai base aN i j aj:Nat}{vs:List Vl}{C r vb bE l d bg:Int}{bJ:Nat}
theorem t.qak(h:Zp:=by
 refine fk (IW HM xaa ?_);exact no_implicit_lambda% qdb):Zp:=h
theorem t.qdc(h:Zp:=by
 exact no_implicit_lambda% qfg):Zp:=h
theorem t.qfh(h:Zp:=by
 refine fk (Iu HM xaa ?_);exact no_implicit_lambda% xbb):Zp:=h
open t in
theorem LZ(Y:MvH w cap base aN i vs ⟨7,C,r,vb,bE,bJ⟩):PtC w R aa m1 ae cap m3 ai base aN i vs 1 d ([eK 3 C r vb 0,eK 1 C 0 0 0,eK 8 C ((vs.length:Nat):Int) (((vs.length:Nat):Int)+1) d],(((vs.length:Nat):Int)+2)) true:=by
 exact qaj
variable{w:World}{R aa:Option Addr}{m1 ae cap m3 ai base aN i j aj:Nat}{vs:List Vl}{C r vb bE l d bg:Int}{bJ:Nat}
theorem u.qak(h:Zp:=by
 refine fk (yh HM xaa ?_);exact no_implicit_lambda% qdb):Zp:=h
theorem u.qdc(h:Zp:=by
 refine fk (It HM xaa ?_);exact no_implicit_lambda% xci):Zp:=h
open u in
theorem L4(Y:MvH w cap base aN i vs ⟨8,C,r,vb,bE,bJ⟩):PtC w R aa m1 ae cap m3 ai base aN i vs 1 d ([eK 1 C 0 0 0,eK 8 C r d ((vs.length:Nat):Int)],(((vs.length:Nat):Int)+1)) true:=by
 exact qaj
variable{w:World}{R aa:Option Addr}{m1 ae cap m3 ai base aN i j aj:Nat}{vs:List Vl}{C r vb bE l d bg:Int}{bJ:Nat}
theorem v.qak(h:Zp:=by
 refine fk (yh HM xaa ?_);exact no_implicit_lambda% qdb):Zp:=h
theorem v.qdc(h:Zp:=by
 refine fk (Iu HM xaa ?_);exact no_implicit_lambda% xci):Zp:=h
open v in
theorem L5(Y:MvH w cap base aN i vs ⟨8,C,r,vb,bE,bJ⟩):PtC w R aa m1 ae cap m3 ai base aN i vs 2 d ([eK 1 C 0 0 0,eK 8 C r ((vs.length:Nat):Int) d],(((vs.length:Nat):Int)+1)) true:=by
 exact qaj
