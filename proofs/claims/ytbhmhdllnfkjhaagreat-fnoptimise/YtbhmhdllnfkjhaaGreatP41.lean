import Derived.Test.YtbhmhdllnfkjhaaGreatP36
namespace Go.Proofs.Z
variable{Zp:Prop}
open Tryz
set_option maxRecDepth 1000000
set_option maxHeartbeats 0
open Go.RowKit Flt
attribute[local go_sem] eG eE eD
variable{w:World}{R P n cap i n1 c1 c2 n3 c3:Nat}{a a1 Y a3:Option Addr}{bs ins outs:List Int}{vs:List Vl}{m:Int}
theorem o.qad(h:Zp:=by
 obtain⟨g,cp,aK,bp,aR,be⟩:=ig t.dg.r2 rfl s;cases aK;exact qds):Zp:=h
theorem o.qdt(h:Zp:=by
 have av:(nv bs i:Int)%16=10:=hM ap.o
 clear ap;obtain⟨_,bd,aL,aJ,_,_,_⟩:=au.o.bx;go_wp2_with fail;refine yaj (au.o.pick hn _) ?_;rintro e bj ⟨rfl,h,ca⟩;replace HK:V _:=HK.o.trans ca;replace au:V _:=h;clear h ca bd aL aJ aM;obtain⟨_,bd,aL,aJ,_,_,_⟩:=au.o.bx;go_wp2_with fail;refine yaj (au.o.pick hn _) ?_;rintro e ci ⟨rfl,v,bS⟩;replace HK:V _:=HK.o.trans bS;replace au:V _:=v;clear v bS bd aL aJ;exact xbt):Zp:=h
open o in
theorem Iq(f:DG w R (.slice a1 n1 c1) (.slice Y vs.length c2) (.slice a3 n3 c3) ins vs outs)(C:RdF w P a n cap i bs)(hP:P<R)(hn:vs.length<=100000)(ae:0<vs.length)(aq:(vd vs (nv bs (ni bs i)%vs.length)).len=m)(N:nv bs i%16=10):
  Calls prog 42 #[eV a1 n1 c1 Y vs.length c2 a3 n3 c3,hB P] w (GwO w R P a n cap (ni bs (ni bs (ni bs (ni bs i)))) bs (.slice a1 n1 c1) (.slice Y vs.length c2) (.slice a3 n3 c3) ins vs outs ⟨8,m,((nv bs (ni bs i)%vs.length:Nat):Int),jS vs m (nv bs (ni bs (ni bs i))),jS vs m (nv bs (ni bs (ni bs (ni bs i)))),0⟩):=by
 exact qac
theorem p.qad(h:Zp:=by
 obtain⟨g,cp,aK,bp,aR,be⟩:=ig t.dg.r2 rfl s;cases aK;exact qds):Zp:=h
theorem p.qdt(h:Zp:=by
 have av:(nv bs i:Int)%16=12:=hM ap.o
 clear ap;exact xbg):Zp:=h
open p in
theorem EI(f:DG w R (.slice a1 n1 c1) (.slice Y vs.length c2) (.slice a3 n3 c3) ins vs outs)(C:RdF w P a n cap i bs)(hP:P<R)(hn:vs.length<=100000)(ae:0<vs.length){m:Nat}(aq:(vd vs (nv bs (ni bs i)%vs.length)).len=(m:Int))(br:0<m)(aX:m<=1000)(N:nv bs i%16=12):
  Calls prog 42 #[eV a1 n1 c1 Y vs.length c2 a3 n3 c3,hB P] w (GwO w R P a n cap (ni bs (ni bs (ni bs i))) bs (.slice a1 n1 c1) (.slice Y vs.length c2) (.slice a3 n3 c3) ins vs outs ⟨11,1,((nv bs (ni bs i)%vs.length:Nat):Int),0,((nv bs (ni bs (ni bs i))%m:Nat):Int),0⟩):=by
 have ad:(nv bs (ni bs (ni bs i)):Int)%(m:Int)=((nv bs (ni bs (ni bs i))%m:Nat):Int):=by rw[Int.natCast_emod]
 have y:nv bs (ni bs (ni bs i))%m<m:=Nat.mod_lt _ br;have F:=fH C.ys (ni bs (ni bs i));generalize nv bs (ni bs (ni bs i))%m=c at ad y⊢;have bc:V ((nv bs (ni bs (ni bs i)):Int).tmod (m:Int)=c):=(Int.tmod_eq_emod_of_nonneg xaa).trans ad;clear ad;exact qac
theorem q.qad(h:Zp:=by
 obtain⟨g,cp,aK,bp,aR,be⟩:=ig t.dg.r2 rfl s;cases aK;exact qds):Zp:=h
theorem q.qdt(h:Zp:=by
 rcases ap.o with ai|ai
 all_goals
  replace ap:V _:=ai
  clear ai
  first|(have av:(nv bs i:Int)%16=14:=hM ap.o)|(have av:(nv bs i:Int)%16=15:=hM ap.o)
  clear ap
  obtain⟨_,bd,aL,aJ,_,_,_⟩:=au.o.bx
  go_wp2_with fail
  refine yaj (au.o.pick hn _) ?_
  rintro e bj ⟨rfl,h,ca⟩
  replace HK:V _:=HK.o.trans ca
  replace au:V _:=h
  clear h ca bd aL aJ aM
  go_wp2_with fail
  refine yaj au.o.next ?_
  rintro e ci ⟨rfl,v,bS⟩
  replace HK:V _:=HK.o.trans bS
  replace au:V _:=v
  clear v bS
  go_wp2_with fail
  obtain⟨_,bd,aL,aJ,_,_,_⟩:=au.o.bx
  go_region_with (first|(go_at_call 38;refine yaj (aI.o _ _ _ _ _ _ _ au.o HK.o _ ((eF _).trans aF)) ?_;rintro e ag ⟨aB,cap',rfl,aO,aA⟩;obtain⟨_,bm,ay,aW,bv,bA,bM⟩:=aO)|(go_at_call 40;refine yaj (gO _ _ _ _ _ _) ?_;rintro e ab ⟨rfl,aF⟩;obtain⟨_,aT,ao,aG,_,_,_⟩:=(au.o.keep ((eF _).trans aF)).bx))
  all_goals
   go_wp2_with fail
   obtain⟨bf,aP,aY⟩:=eZ ag (w.heap.size+1) _ _ _ bm ay aW (.slice a1 n1 c1) (hC aB (vs.length+1) cap') (.slice a3 n3 c3)
   exact yaz (v:=eV a1 n1 c1 (some ⟨aB,0,none⟩) (vs.length+1) cap' a3 n3 c3) (by simp[results,results42,go_sem,bf,aP,aY]) rfl aA):Zp:=h
open q in
theorem EJ(f:DG w R (.slice a1 n1 c1) (.slice Y vs.length c2) (.slice a3 n3 c3) ins vs outs)(C:RdF w P a n cap i bs)(hP:P<R)(hn:vs.length<=100000)(ae:0<vs.length)(aq:(vd vs (nv bs (ni bs i)%vs.length)).len=m)(hb:jS vs 1 (nv bs (ni bs (ni bs i)))<0)(N:nv bs i%16=14\/nv bs i%16=15):
  Calls prog 42 #[eV a1 n1 c1 Y vs.length c2 a3 n3 c3,hB P] w (GwO w R P a n cap ((ni bs (ni bs (ni bs (ni bs i))))) bs (.slice a1 n1 c1) (.slice Y vs.length c2) (.slice a3 n3 c3) ins vs outs ⟨9,1,((nv bs (ni bs i)%vs.length:Nat):Int),0,0,0⟩):=by
 have F:=fH C.ys (ni bs (ni bs (ni bs i)));exact qac
theorem r.qad(h:Zp:=by
 obtain⟨g,cp,aK,bp,aR,be⟩:=ig t.dg.r2 rfl s;cases aK;exact qdj):Zp:=h
theorem r.qdk(h:Zp:=by
 exact xbt):Zp:=h
theorem r.qfj(h:Zp:=by
 generalize 1+nv bs (ni bs (ni bs (ni bs i)))%4=d at l⊢;have c6:V _:=l;clear l;exact qac):Zp:=h
open r in
theorem EK(f:DG w R (.slice a1 n1 c1) (.slice Y vs.length c2) (.slice a3 n3 c3) ins vs outs)(C:RdF w P a n cap i bs)(hP:P<R)(hn:vs.length<=100000)(ae:0<vs.length)(aq:(vd vs (nv bs (ni bs i)%vs.length)).len=m)(hb:0<=jS vs 1 (nv bs (ni bs (ni bs i))))(N:nv bs i%16=14):
  Calls prog 42 #[eV a1 n1 c1 Y vs.length c2 a3 n3 c3,hB P] w (GwO w R P a n cap ((ni bs (ni bs (ni bs (ni bs i))))) bs (.slice a1 n1 c1) (.slice Y vs.length c2) (.slice a3 n3 c3) ins vs outs ⟨10,((1+nv bs (ni bs (ni bs (ni bs i)))%4:Nat):Int),jS vs 1 (nv bs (ni bs (ni bs i))),0,0,0⟩):=by
 exact qfi
