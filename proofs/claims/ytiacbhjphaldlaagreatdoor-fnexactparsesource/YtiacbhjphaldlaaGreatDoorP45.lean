import Derived.Test.YtiacbhjphaldlaaGreatDoorP33
namespace Go.Proofs.Z
variable{Zp:Prop}
open Tryz
set_option maxRecDepth 1000000
set_option maxHeartbeats 0
open Go.RowKit Flt
attribute[local go_sem] dI dG dF gh gj gn mkF fA eJ fU eL fV ez gy eH fB dY fW eM fX eO gz eQ fY eA gB eI fZ eB gU gV iF iG iH iI jb jc gW gX iJ iK iL iM jd je gD gq gY gF gu fS
theorem dI.qgx(h:Zp:=by
 go_region_with (first
  |(go_at_call 168;refine yai (bf.o _ (al.o.trans (by first|exact ib|exact ib.drew))) ?_;rintro e b7 ⟨rfl,(s:M _),ci⟩;have J:=bl.o _ s.o;obtain⟨aj,_⟩:=bW.o _ s.o;have L:=dZ (Kept.trans (by first|exact ib|exact ib.drew) ci) o bj;clear ci)
  |(go_at_call 167;refine yai (bu.o _ s.o) ?_;rintro e bn ah;have u:=Q ah;obtain⟨st2,a,aC,K,rfl,_⟩|⟨c,q,K,rfl,_⟩:=ah;rotate_left;exact h1 rfl (TqR.afterK s.o u.o);clear K))
 all_goals
  go_wp2
  go_ret
  exact TqR.afterK s.o u.o):Zp:=h
open dI in
theorem A6{E ρ w st aO G}(h:Tq E ρ w st aO G)(g:Gd st){mp b a1 n1 c1 bv cap ys}(y:OfR w ρ (hZ bv 1 cap) ys)(aY:∀i∈ys,i<st.vs.length)(p:Nat)(ax):
  Calls prog 162 #[ge E.T,.agg #[.iface 194 (.agg #[h0 p,.slice a1 n1 c1,h0 ax]),.map mp,.bool b],hZ bv 1 cap] w (TqR E ρ w aO G (eg st (dL ax (dS st (ys.getD 0 0)) (ys.getD 0 0:Nat) 0 0) p)):=by
 have aw:M _:=mj w (.iface 194 (.agg #[h0 p,.slice a1 n1 c1,h0 ax])) (.map mp) (.bool b);have l:=y.cells.1;have I:=gI (i:=0) aY xaa;have U:=g.lenB I;have br:M _:=(dO y.1 (k:=bv) rfl).2;have bW:M (∀W,Kept 0 0 w W->_):=λW k=>(h.keep k).t0;have bl:M (∀W,Kept 0 0 w W->_):=λW k=>(y.keep k).cells.2 0 xab;have bf:M (∀W,Kept 0 0 w W->Calls prog 168 #[ge E.P,h0 (ys.getD 0 0:Nat)] W λe D=>e=.returned (h0 (dS st (ys.getD 0 0)))/\Kept 0 0 w D/\Kept 0 0 W D):=λW ae=>yai (vY (h.keep ae) I) (λe D ⟨a,b⟩=>⟨a,ae.trans b,b⟩);have bu:M (∀W,Kept 0 0 w W->_):=λW k=>sP (h.keep k) g (dL ax (dS st (ys.getD 0 0)) (ys.getD 0 0:Nat) 0 0) (by show -1000000000<=dS st _;omega) (by show dS st _<=1000000000;omega) p;clear h y aY g I U l;generalize eg st (dL ax (dS st (ys.getD 0 0)) (ys.getD 0 0:Nat) 0 0) p=r at*;unfold dL at bu;generalize ys.getD 0 0=bG at*;generalize dS st bG=ar at*;go_enter func162,ntmps162;go_upto_region 12 with (go_at_call 269;refine yai lE ?_;rintro e aa ⟨rfl,(bV:M _)⟩;obtain⟨ag,aP,aQ,aU,bN⟩:=aw.o _ bV.o;clear ag aQ aU);have F:=bV.o.trans (dE 0 0 aa (.cells #[h0 p,.slice a1 n1 c1,h0 ax] 194));obtain⟨(al:M _),aK,m1,_,m3⟩:=aw.o _ F;have av:=(eo aa #[h0 p,.slice a1 n1 c1,h0 ax] 194 (ib).chg (S:=λ_=>False) (λc=>c))
 have bj:(aa.alloc (.cells #[h0 p,.slice a1 n1 c1,h0 ax] 194)).cell? ⟨aa.heap.size,2,none⟩=some (h0 ax):=av.1 2;have o:=av.2.2;clear av aP bN F aK;change Code.wp _ _ _ _ (aa.alloc (.cells #[h0 p,.slice a1 n1 c1,h0 ax] 194));generalize (aa.alloc (.cells #[h0 p,.slice a1 n1 c1,h0 ax] 194))=aA at*;exact qgw
