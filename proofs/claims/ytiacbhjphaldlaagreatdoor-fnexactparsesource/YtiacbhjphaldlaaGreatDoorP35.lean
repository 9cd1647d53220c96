import Derived.Test.YtiacbhjphaldlaaGreatDoorP34
namespace Go.Proofs.Z
variable{Zp:Prop}
open Tryz
set_option maxRecDepth 1000000
set_option maxHeartbeats 0
open Go.RowKit Flt
attribute[local go_sem] dI dG dF gh gj gn mkF fA eJ fU eL fV ez gy eH fB dY fW eM fX eO gz eQ fY eA gB eI fZ eB gU gV iF iG iH iI jb jc gW gX iJ iK iL iM jd je gD gq gY gF gu fS
def Fa(st:LSt)(p x0 v:Nat):Rs (LSt×Nat):=if dS st x0≠1 then .error (4,p)else ft st (grM st.vs x0 v) p
theorem O.qaw(h:Zp:=by
 have au:M (∀W,Kept 0 0 w W->_):=λW k=>vZ (h.keep k) I p;exact qei):Zp:=h
theorem O.qej(h:Zp:=by
 have aF:M (Fa st p (ys.getD 0 0) v=if dS st (ys.getD 0 0)≠1 then .error (4,p)else ft st (grM st.vs (ys.getD 0 0) v) p):=rfl;generalize Fa st p (ys.getD 0 0) v=r at aF⊢;have V:M _:=λc=>aF.o.trans (h3 c);have aE:M _:=λc=>aF.o.trans (h2 (λq=>q c))
 have S:M (dS st (ys.getD 0 0)=1->∀W,Kept 0 0 w W->Calls prog 174 #[ge E.P,h0 (ys.getD 0 0:Nat),h0 v] W λe D=>e=.returned (h0 (grM st.vs (ys.getD 0 0) v).2)/\Calls prog 173 #[ge E.T,h0 p,h0 (grM st.vs (ys.getD 0 0) v).2] D (TqR E ρ w aO G (ft st (grM st.vs (ys.getD 0 0) v) p))):=λco W k=>by
  have an:=h.keep k
  obtain⟨u1,u3,Y,bm,am,ax,C⟩:=an
  refine yai (Hw W E.P u1 u3 Y st.ins st.vs E.N Y.ownBlock st.vs.length (ys.getD 0 0) v ax.b rfl g.n I ef g.ok g.c) ?_
  rintro e D ⟨rfl,R',a5,i1,x⟩
  obtain⟨ρ',bg,a8,bE⟩:=Tq.built ax C i1 x
  obtain⟨_,z,_⟩:=sK g.v I ef co
  exact⟨rfl,E4 (st:=st) (m:=grM st.vs (ys.getD 0 0) v) z.1 (ip z.1 z.2.1) ⟨u1,u3,a5,bm,am,bg,a8⟩ ((Sco.kept k).trans bE) ((Tsm.kept k).trans k.size (Tsm.chg x.chg (nTt ax C)))⟩
 clear h y aY g I U aF ai aD ef aB;generalize ft st (grM st.vs (ys.getD 0 0) v) p=bp at*;generalize (grM st.vs (ys.getD 0 0) v).2=aL at*;generalize ys.getD 0 0=bG at*;generalize cvT n=j at*;unfold tkV at P;have aw:M _:=mj w (.iface 213 (.agg #[h0 p,.slice a1 n1 c1,h0 j.kind,dJ j.text,h0 j.at_])) (.map mp) (.bool b);go_enter func162,ntmps162;go_upto_region 33 with (go_at_call 269;refine yai lE ?_;rintro e aa ⟨rfl,(bV:M _)⟩;obtain⟨ag,aP,aQ,aU,bN⟩:=aw.o _ bV.o;clear ag aQ aU);have F:=bV.o.trans (dE 0 0 aa (.cells #[h0 p,.slice a1 n1 c1,h0 j.kind,dJ j.text,h0 j.at_] 213));obtain⟨(al:M _),aK,m1,_,m3⟩:=aw.o _ F;have av:=(eo aa #[h0 p,.slice a1 n1 c1,h0 j.kind,dJ j.text,h0 j.at_] 213 (ib).chg (S:=λ_=>False) (λc=>c))
 have bj:(aa.alloc (.cells #[h0 p,.slice a1 n1 c1,h0 j.kind,dJ j.text,h0 j.at_] 213)).cell? ⟨aa.heap.size,2,none⟩=some (h0 j.kind):=av.1 2;have bI:(aa.alloc (.cells #[h0 p,.slice a1 n1 c1,h0 j.kind,dJ j.text,h0 j.at_] 213)).cell? ⟨aa.heap.size,3,none⟩=some (dJ j.text):=av.1 3;have bR:(aa.alloc (.cells #[h0 p,.slice a1 n1 c1,h0 j.kind,dJ j.text,h0 j.at_] 213)).cell? ⟨aa.heap.size,4,none⟩=some (h0 j.at_):=av.1 4;have o:=av.2.2;clear av aP bN F aK;change Code.wp _ _ _ _ (aa.alloc (.cells #[h0 p,.slice a1 n1 c1,h0 j.kind,dJ j.text,h0 j.at_] 213));generalize (aa.alloc (.cells #[h0 p,.slice a1 n1 c1,h0 j.kind,dJ j.text,h0 j.at_] 213))=aA at*;exact qgw):Zp:=h
theorem O.qgx(h:Zp:=by
 have O:=Q m3;have cz:M (∀W,Kept 0 0 aA W->W.cell? ⟨bh,2,none⟩=some (h0 j.kind)/\W.cell? ⟨bh,3,none⟩=some (dJ j.text)/\W.cell? ⟨bh,4,none⟩=some (h0 j.at_)/\W.cell? ⟨w.heap.size,1,none⟩=some (.map mp)):=λW k=>⟨dZ k o bj,dZ k o bI,dZ k o bR,dZ k O.o m1⟩
 go_upto_region 34 with (go_at_call 170;refine yai (au.o _ al.o) ?_;rintro e b7 ⟨(⟨c1,rfl⟩|⟨c1,rfl⟩),b3⟩;rotate_left;exact h1 rfl (.inr ⟨4,p,V.o c1,rfl,(al.o.trans b3).chg⟩);have bM:=Q c1;clear c1;have J:=bl.o _ (al.o.trans b3);obtain⟨aj,_⟩:=bW.o _ (al.o.trans b3);obtain⟨L,ak,ao,A⟩:=cz.o _ b3;have l:=Q b3;have s:M _:=al.o.trans b3;clear b3);have t:M _:=S.o bM.o
 go_region_with (first
  |(go_at_call 163;refine yai (P.o _ (s.o.trans (by first|exact ib|exact ib.drew))) ?_;rintro e cf ⟨rfl,ci⟩;have H:M _:=s.o.trans (Kept.trans (by first|exact ib|exact ib.drew) ci);have Z:=bl.o _ H.o;obtain⟨B,_⟩:=bW.o _ H.o;clear ci)
  |(go_at_call 174;refine yai (t.o _ H.o) ?_;rintro e cI ⟨rfl,(f:M _)⟩)
  |(go_at_call 173;refine yai f.o ?_;rintro e bn ah;have u:=Q ah;obtain⟨st2,a,aC,K,rfl,_⟩|⟨c,q,K,rfl,_⟩:=ah;rotate_left;exact h1 rfl (by rw[aE.o bM.o];exact u.o);clear K))
 all_goals
  go_wp2
  go_ret
  rw[aE.o bM.o]
  exact u.o):Zp:=h
open O in
theorem I8{E ρ w st aO G}(h:Tq E ρ w st aO G)(g:Gd st){loc mp b a1 n1 c1 bv cap ys}(y:OfR w ρ (hZ bv 1 cap) ys)(aY:∀i∈ys,i<st.vs.length)(p:Nat)(aB:PrM w ρ (.map mp) loc){n}(ai:n.sym≠[]){v}(aD:dX st loc n=.ok v)(ef:v<st.vs.length):
  Calls prog 162 #[ge E.T,.agg #[.iface 213 (.agg #[h0 p,.slice a1 n1 c1,h0 (cvT n).kind,dJ (cvT n).text,h0 ((cvT n).at_:Int)]),.map mp,.bool b],hZ bv 1 cap] w (TqR E ρ w aO G (Fa st p (ys.getD 0 0) v)):=by
 exact qav
