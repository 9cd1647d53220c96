import Derived.Test.YtcjhlkdleojbjaaGreatP34
namespace Go.Proofs.Z
variable{Zp:Prop}
open Tryz
set_option maxRecDepth 1000000
set_option maxHeartbeats 0
open Go.RowKit Flt
attribute[local go_sem] eF eE eD
theorem cG.qdp(h:Zp:=by
 rcases G.o with⟨aj,rfl⟩|⟨aj,rfl⟩|⟨aj,rfl⟩|⟨aj,rfl⟩|⟨aj,rfl⟩|⟨aj,rfl⟩|⟨aj,rfl⟩|⟨aj,rfl⟩
 all_goals
  clear G
  first|(have u:(nv bs i:Int)%16=1:=by omega)|(have u:(nv bs i:Int)%16=2:=by omega)|(have u:(nv bs i:Int)%16=3:=by omega)|(have u:(nv bs i:Int)%16=4:=by omega)|(have u:(nv bs i:Int)%16=5:=by omega)|(have u:(nv bs i:Int)%16=6:=by omega)|(have u:(nv bs i:Int)%16=7:=by omega)|(have u:(nv bs i:Int)%16=8:=by omega)
  clear aj
  obtain⟨_,aY,aC,aL,_,_,_⟩:=(ao.o.keep (ez 0 0 _ (.cells #[hA 0,hA 2,hA 3,hA 4,hA 5,hA 7,hA 4,hA 2,hA 3] 3))).bx
  go_wp2_with fail
  refine yaj ((ao.o.keep (ez 0 0 _ _)).pick ad _) ?_
  rintro e bc ⟨rfl,z,bM⟩
  replace HK:E _:=HK.o.trans ((e8 (ez 0 0 _ _)).trans bM)
  replace ao:E _:=z
  clear z bM aY aC aL aP
  go_wp2_with fail
  obtain⟨_,aY,aC,aL,_,_,_⟩:=ao.o.bx
  go_region_with (first|(go_at_call 44;refine yaj (HF.o _ _ _ _ _ _ _ ao.o HK.o _ ((eG _).trans aR)) ?_;rintro e ag ⟨aq,cap',rfl,aA,av⟩;obtain⟨_,br,ay,a0,bZ,b5,b6⟩:=aA)|(go_at_call 46;refine yaj (ij _ _ _ _ _ _) ?_;rintro e aB ⟨rfl,aR⟩;obtain⟨_,aZ,ax,aU,_,_,_⟩:=(ao.o.keep ((eG _).trans aR)).bx))
  all_goals
   go_wp2_with fail
   obtain⟨bn,aX,bb⟩:=fp ag (w.heap.size+1) _ _ _ br ay a0 (.slice a1 Z c1) (hz aq (vs.length+1) cap') (.slice a3 ab c3)
   exact yaz (v:=eZ a1 Z c1 (some ⟨aq,0,none⟩) (vs.length+1) cap' a3 ab c3) (by simp[results,results48,go_sem,bn,aX,bb]) rfl av):Zp:=h
open cG in
theorem I0{w J P a n cap i bs a1 U a3 Z c1 c2 ab c3 ins vs outs}(f:DG w J (.slice a1 Z c1) (.slice U vs.length c2) (.slice a3 ab c3) ins vs outs)(K:RdF w P a n cap i bs)(hP:P<J)(ad:vs.length<=100000)(al:0<vs.length){m}(am:(vd vs (nv bs (ni bs i)%vs.length)).len=m){o}(O:(nv bs i%16=1/\o=2)\/(nv bs i%16=2/\o=3)\/(nv bs i%16=3/\o=4)\/(nv bs i%16=4/\o=5)\/(nv bs i%16=5/\o=7)\/(nv bs i%16=6/\o=4)\/(nv bs i%16=7/\o=2)\/(nv bs i%16=8/\o=3)):
  Calls prog 48 #[eZ a1 Z c1 U vs.length c2 a3 ab c3,hy P] w (GwO w J P a n cap (ni bs (ni bs (ni bs i))) bs (.slice a1 Z c1) (.slice U vs.length c2) (.slice a3 ab c3) ins vs outs ⟨o,m,((nv bs (ni bs i)%vs.length:Nat):Int),jC vs m (nv bs (ni bs (ni bs i))),0,0⟩):=by
 obtain⟨x,bq⟩:=GrS.start f K hP;have ap:E _:=x;have s:E (Kept P (P+1) w _):=e8 bq;have HF:E (∀(W:World) (Y:Nat) (o m p q r:Int),GrS W J P a n cap Y bs w.heap.size (.slice a1 Z c1) (.slice U vs.length c2) (.slice a3 ab c3) ins vs outs->Kept P (P+1) w W->∀az,Kept 0 0 W az->_):=λW Y o m p q r S k az aw=>S.put k aw (eK o m p q r) (Nat.zero_lt_succ _) ad;have hj:(nv bs (ni bs i):Int)%(vs.length:Int)=((nv bs (ni bs i)%vs.length:Nat):Int):=by rw[Int.natCast_emod]
 have X:nv bs (ni bs i)%vs.length<vs.length:=Nat.mod_lt _ al;generalize nv bs (ni bs i)%vs.length=j at hj X am⊢;have aD:E ((nv bs (ni bs i):Int).tmod (vs.length:Int)=j):=(Int.tmod_eq_emod_of_nonneg xaa).trans hj;have bL:¬vs=[]:=λe=>by rw[e]at al;exact Nat.lt_irrefl _ al
 have cA:=ib K.ys i;have b4:=ib K.ys (ni bs i);have ar:¬(nv bs i:Int)%16=0:=xaa;have G:E _:=O;have HM:E _:=am;clear f K x bq O hj am;go_enter func48,ntmps48;go_wp2_with fail;generalize (w.alloc (.cells #[.slice a1 Z c1,.slice U vs.length c2,.slice a3 ab c3] 26)).alloc fJ=W0 at ap s⊢;refine yaj ap.o.next ?_;rintro e az ⟨rfl,(au:E _),aw⟩;have aC:=au.o.bx.q1;have bX:E _:=s.o.trans aw;clear aw;go_upto_region 11 with fail;go_region_held3 (λB=>B.cell? ⟨w.heap.size,1,none⟩=some (.slice U vs.length c2)) (go_keep) (first|(go_at_call 15;refine yaj (au.o.keep (eG _)).next ?_;rintro e bS ⟨rfl,h,ak⟩;have aL:=h.bx.q1));have HK:E (Kept P (P+1) w bS):=bX.o.trans ((e8 (eG _)).trans ak);have ao:E _:=h;obtain⟨g,ce,aK,ai,b8,a7⟩:=jN h.dg.r2 rfl X;cases aK;exact qdo
