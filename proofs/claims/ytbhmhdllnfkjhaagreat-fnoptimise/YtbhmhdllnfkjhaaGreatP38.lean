import Derived.Test.YtbhmhdllnfkjhaaGreatP36
import Derived.Test.YtbhmhdllnfkjhaaGreatP34
import Derived.Test.YtbhmhdllnfkjhaaGreatP31
namespace Go.Proofs.Z
variable{Zp:Prop}
open Tryz
set_option maxRecDepth 1000000
set_option maxHeartbeats 0
open Go.RowKit Flt
attribute[local go_sem] eG eE eD
variable{w:World}{R n m1 m3 af cap base aq:Nat}{O Z a Y:Option Addr}{o G am r ak:Int}{vs:List Vl}{U R':Option Nat}{c0 c1 c2 c3 c5 aX aC ad X x a5 aN a2 aU Q ar aw:Value}
theorem Io{W:World}{u}{xs:List Int}(h:W.ownsRow R 3 1 u n (xs.map (Value.int .i64)))(ab:xs.length=n){k}(N:k<n):∃g cap,u=hC g n cap/\R<=g/\g<W.heap.size/\W.cell? ⟨g,k,none⟩=some (hD (xs.getD k 0)):=by
 obtain⟨b,d,rfl⟩:=jp h;rcases tI h ab with c|⟨g,rfl,aR,hi⟩
 ·omega
 exact⟨g,d,rfl,aR,hi.lt,hi.at_ k N⟩
theorem jP{W:World}{m c xs}{e s:Nat}(h:W.ownsRow R e s (.slice a n c) m xs):n=m:=by
 obtain⟨b,d,e⟩:=jp h;injection e
theorem aJ.qay(h:Zp:=by
 rcases Nat.eq_zero_or_pos T with bi|bi
 case' inl=>have aa:(T:Int)<=0:=xaa
 case' inl=>clear bi
 case' inr=>have av:(nv bs i:Int)%16=0:=hM ap.o
 all_goals
  clear ap
  go_wp2_with fail
  refine yaj au.o.next ?_
  rintro e W2 ⟨rfl,t,ah⟩
  replace HK:V _:=HK.o.trans ah
  replace au:V _:=t
  clear t ah bd aL aJ
  have c:=HO.o
  have bd:=au.o.bx.q0
  have aQ:¬n1=0:=xaa
  go_upto_region 6 with fail
  go_region_held3 (λI=>I.cell? ⟨w.heap.size,0,none⟩=some (.slice a1 n1 c1)) (go_keep) (first|(go_at_call 33;refine yaj (au.o.keep (eF _)).next ?_;rintro e bj ⟨rfl,h,ca⟩;have bC:=h.bx.q0))
  replace HK:V _:=HK.o.trans ((fh (eF _)).trans ca)
  replace au:V _:=h
  have ay:=h.dg.r1
  rw[bW.o]at ay
  obtain⟨g,cp,aK,_,aR,y⟩:=Io ay bW.o s
  cases aK
  rw[bL.o]at y
  first|rw[z.o]|rw[e8.o]
  clear h ca bd ay
  go_wp2_with fail
  obtain⟨_,bd,aL,aJ,_,_,_⟩:=au.o.bx
  go_region_with (first|(go_at_call 38;refine yaj (aI.o _ _ (eL 0 l (j:Int) 0 0) au.o HK.o _ ((eF _).trans aF) (Nat.zero_lt_succ _)) ?_;rintro e ag ⟨aB,cap',rfl,aO,aA⟩;obtain⟨_,bm,ay,aW,bv,bA,bM⟩:=aO)|(go_at_call 40;refine yaj (gO _ _ _ _ _ _) ?_;rintro e ab ⟨rfl,aF⟩;obtain⟨_,aT,ao,aG,_,_,_⟩:=(au.o.keep ((eF _).trans aF)).bx))
  all_goals
   go_wp2_with fail
   obtain⟨bf,aP,aY⟩:=eZ ag (w.heap.size+1) _ _ _ bm ay aW (hC g n1 c1) (hC aB (T+1) cap') (.slice a3 n3 c3)
   exact yaz (v:=eV (some ⟨g,0,none⟩) n1 c1 (some ⟨aB,0,none⟩) (T+1) cap' a3 n3 c3) (by simp[results,results42,go_sem,bf,aP,aY]) rfl aA):Zp:=h
open aJ in
theorem K5{P i bs a1 a3 n1 c1 c2 n3 c3 ins outs}(f:DG w R (.slice a1 n1 c1) (.slice Y vs.length c2) (.slice a3 n3 c3) ins vs outs)(C:RdF w P a n cap i bs)(hP:P<R)(hn:vs.length<=100000)(B:0<n1)(al:nv bs (ni bs i)%2=1)(N:nv bs i%16=0\/vs.length=0):
  Calls prog 42 #[eV a1 n1 c1 Y vs.length c2 a3 n3 c3,hB P] w (GwO w R P a n cap ((ni bs (ni bs (ni bs i)))) bs (.slice a1 n1 c1) (.slice Y vs.length c2) (.slice a3 n3 c3) ins vs outs ⟨0,ins.getD (nv bs (ni bs (ni bs i))%n1) 0,((nv bs (ni bs (ni bs i))%n1:Nat):Int),0,0,0⟩):=by
 have H:n1=ins.length:=jP f.r1;have hj:(nv bs (ni bs (ni bs i)):Int)%(n1:Int)=((nv bs (ni bs (ni bs i))%n1:Nat):Int):=by rw[Int.natCast_emod]
 have s:nv bs (ni bs (ni bs i))%n1<n1:=Nat.mod_lt _ B;have F:=fH C.ys (ni bs (ni bs i));generalize nv bs (ni bs (ni bs i))%n1=j at hj s⊢;have z:V ((nv bs (ni bs (ni bs i)):Int).tmod (n1:Int)=j):=(Int.tmod_eq_emod_of_nonneg xaa).trans hj;have e8:V _:=hj;have bW:V (ins.length=n1):=H.symm;have c:(nv bs (ni bs i):Int)%2=1:=xaa;have HO:V _:=c;generalize aD:ins.getD j 0=l;have bL:V _:=aD;clear hj H al c aD;exact qax
theorem Ip{W e1}(aa:V (MS w W O m1 e1 Z m3 af vs ⟨o,G,am,r,ak,aq⟩ base U R' Y cap))(an:vs.length<=900000):PfC 19 W (MpR w O m1 e1 Z m3 af vs ⟨o,G,am,r,ak,aq⟩ base U (eL 3 G am r 0)) c0 c1 c2 c3 (hB w.heap.size) c5 aX aC ad X x (hB (w.heap.size+1+1)) (hD G) a5 aN a2 aU Q ar aw X x:=by
 unfold PfC;exact xbn
theorem x8{W e1 c}(aa:V (MS w W O m1 e1 Z m3 af vs ⟨o,G,am,r,ak,aq⟩ base U R' Y cap))(an:vs.length<=900000):PfC 24 W (MpR w O m1 e1 Z m3 af vs ⟨o,G,am,r,ak,aq⟩ base U (eL 1 G 0 0 0)) c0 c1 c2 c3 (hB w.heap.size) c5 aX aC ad X x c (hD G) a5 aN a2 aU Q ar aw X x:=by
 unfold PfC;intros;rename_i HK;have bc:V (∀az,Kept 0 0 W az->_):=λaz k=>MS.call aa.o k (eL 1 G 0 0 0) xaa;have aT:=aa.o.g.c0;have ao:=aa.o.g.c1;have aG:=aa.o.g.c2;conv=>arg 2;whnf
 go_region_with (first
  |(go_at_call 38;refine yaj (bc.o _ ((eF W).trans aj)) ?_;rintro e ag ⟨aB,cap',rfl,⟨u0,bm⟩,⟨u1,ay⟩,⟨u2,aW⟩,ae,_,a0⟩;have bv:=ae 0;have bA:=ae 1;have bM:=ae 2;clear ae)
  |(go_at_call 65;refine yaj (pw _ _) ?_;rintro e aO ⟨rfl,aj⟩;have a8:=(MS.keep aa.o ((eF W).trans aj)).g.c0;have aV:=(MS.keep aa.o ((eF W).trans aj)).g.c1;have p2:=(MS.keep aa.o ((eF W).trans aj)).g.c2))
 all_goals exact HK _ ⟨_,_,_,⟨rfl,by simp⟩,by simp,a0⟩
variable{w:World}{O Z:Option Addr}{m1 e1 cap m3 af base ap i j ai:Nat}{vs:List Vl}{G am r ak l d F:Int}{aq:Nat}
theorem L.qao(h:Zp:=by
 refine fx (Ip aa xaa ?_);exact no_implicit_lambda% qdf):Zp:=h
theorem L.qdg(h:Zp:=by
 exact no_implicit_lambda% qfs):Zp:=h
theorem L.qft(h:Zp:=by
 refine fx (If aa xaa ?_);exact no_implicit_lambda% xbh):Zp:=h
open L in
theorem K6(H:MvH w cap base ap i vs ⟨7,G,am,r,ak,aq⟩):PtC w O Z m1 e1 cap m3 af base ap i vs 0 d ([eL 3 G am r 0,eL 1 G 0 0 0,eL 8 G ((vs.length:Nat):Int) d (((vs.length:Nat):Int)+1)],(((vs.length:Nat):Int)+2)) true:=by
 exact qan
variable{w:World}{O Z:Option Addr}{m1 e1 cap m3 af base ap i j ai:Nat}{vs:List Vl}{G am r ak l d F:Int}{aq:Nat}
theorem M.qao(h:Zp:=by
 refine fx (Ip aa xaa ?_);exact no_implicit_lambda% qdf):Zp:=h
theorem M.qdg(h:Zp:=by
 exact no_implicit_lambda% qfs):Zp:=h
theorem M.qft(h:Zp:=by
 refine fx (Ig aa xaa ?_);exact no_implicit_lambda% xbh):Zp:=h
open M in
theorem K7(H:MvH w cap base ap i vs ⟨7,G,am,r,ak,aq⟩):PtC w O Z m1 e1 cap m3 af base ap i vs 1 d ([eL 3 G am r 0,eL 1 G 0 0 0,eL 8 G ((vs.length:Nat):Int) (((vs.length:Nat):Int)+1) d],(((vs.length:Nat):Int)+2)) true:=by
 exact qan
variable{w:World}{O Z:Option Addr}{m1 e1 cap m3 af base ap i j ai:Nat}{vs:List Vl}{G am r ak l d F:Int}{aq:Nat}
theorem N.qao(h:Zp:=by
 refine fx (x8 aa xaa ?_);exact no_implicit_lambda% qdf):Zp:=h
theorem N.qdg(h:Zp:=by
 refine fx (If aa xaa ?_);exact no_implicit_lambda% xcp):Zp:=h
open N in
theorem K8(H:MvH w cap base ap i vs ⟨8,G,am,r,ak,aq⟩):PtC w O Z m1 e1 cap m3 af base ap i vs 1 d ([eL 1 G 0 0 0,eL 8 G am d ((vs.length:Nat):Int)],(((vs.length:Nat):Int)+1)) true:=by
 exact qan
variable{w:World}{O Z:Option Addr}{m1 e1 cap m3 af base ap i j ai:Nat}{vs:List Vl}{G am r ak l d F:Int}{aq:Nat}
theorem O.qao(h:Zp:=by
 refine fx (x8 aa xaa ?_);exact no_implicit_lambda% qdf):Zp:=h
theorem O.qdg(h:Zp:=by
 refine fx (Ig aa xaa ?_);exact no_implicit_lambda% xcp):Zp:=h
open O in
theorem K9(H:MvH w cap base ap i vs ⟨8,G,am,r,ak,aq⟩):PtC w O Z m1 e1 cap m3 af base ap i vs 2 d ([eL 1 G 0 0 0,eL 8 G am ((vs.length:Nat):Int) d],(((vs.length:Nat):Int)+1)) true:=by
 exact qan
