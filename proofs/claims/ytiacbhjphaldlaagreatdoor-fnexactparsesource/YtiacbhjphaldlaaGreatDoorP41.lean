import Derived.Test.YtiacbhjphaldlaaGreatDoorP33
namespace Go.Proofs.Z
variable{Zp:Prop}
open Tryz
set_option maxRecDepth 1000000
set_option maxHeartbeats 0
open Go.RowKit Flt
attribute[local go_sem] dI dG dF gh gj gn mkF fA eJ fU eL fV ez gy eH fB dY fW eM fX eO gz eQ fY eA gB eI fZ eB gU gV iF iG iH iI jb jc gW gX iJ iK iL iM jd je gD gq gY gF gu fS
def yh(st:LSt)(p x0:Nat)(n:Tok):Rs (LSt×Nat):=if jL (ek n.text) (dS st x0)=false then .error (4,n.pos)else eg st (dL 11 1 (x0:Int) 0 (ek n.text)) p
theorem P.qaw(h:Zp:=by
 have t:M (∀W,Calls prog 172 #[tkV (cvT n),h0 (dS st (ys.getD 0 0))] W λe A=>Kept 0 0 W A/\((jL (ek n.text) (dS st (ys.getD 0 0))=true/\e=.returned (h0 (ek n.text)))\/(jL (ek n.text) (dS st (ys.getD 0 0))=false/\e=Thr 4 (n.pos:Nat)))):=λW=>xX bo ai az W;have bf:M (∀W,Kept 0 0 w W->_):=λW ae=>vY (h.keep ae) I;have bu:M (∀W,Kept 0 0 w W->_):=λW k=>sP (h.keep k) g (dL 11 1 (ys.getD 0 0:Nat) 0 (ek n.text)) (by show(-1000000000:Int)<=1;decide) (by show(1:Int)<=1000000000;decide) p;have aF:M (yh st p (ys.getD 0 0) n=if jL (ek n.text) (dS st (ys.getD 0 0))=false then .error (4,n.pos)else eg st (dL 11 1 (ys.getD 0 0:Nat) 0 (ek n.text)) p):=rfl;generalize yh st p (ys.getD 0 0) n=r at aF⊢;have bU:M _:=λd=>aF.o.trans (h3 d);have aE:M (jL (ek n.text) (dS st (ys.getD 0 0))=true->_):=λd=>aF.o.trans (h2 (by rw[d];decide));clear h y aY g I U aF bo ai az;generalize eg st (dL 11 1 (ys.getD 0 0:Nat) 0 (ek n.text)) p=bp at*;unfold dL at bu;generalize ys.getD 0 0=bG at*;generalize dS st bG=ar at*;generalize cvT n=j at*;unfold tkV at t;generalize ek n.text=T at*;have aw:M _:=mj w (.iface 210 (.agg #[h0 p,.slice a1 n1 c1,h0 j.kind,dJ j.text,h0 j.at_])) (.map mp) (.bool b);go_enter func162,ntmps162;go_upto_region 25 with (go_at_call 269;refine yai lE ?_;rintro e aa ⟨rfl,(bV:M _)⟩;obtain⟨ag,aP,aQ,aU,bN⟩:=aw.o _ bV.o;clear ag aQ aU);have F:=bV.o.trans (dE 0 0 aa (.cells #[h0 p,.slice a1 n1 c1,h0 j.kind,dJ j.text,h0 j.at_] 210));obtain⟨(al:M _),aK,m1,_,m3⟩:=aw.o _ F;have av:=(eo aa #[h0 p,.slice a1 n1 c1,h0 j.kind,dJ j.text,h0 j.at_] 210 (ib).chg (S:=λ_=>False) (λc=>c))
 have bj:(aa.alloc (.cells #[h0 p,.slice a1 n1 c1,h0 j.kind,dJ j.text,h0 j.at_] 210)).cell? ⟨aa.heap.size,2,none⟩=some (h0 j.kind):=av.1 2;have bI:(aa.alloc (.cells #[h0 p,.slice a1 n1 c1,h0 j.kind,dJ j.text,h0 j.at_] 210)).cell? ⟨aa.heap.size,3,none⟩=some (dJ j.text):=av.1 3;have bR:(aa.alloc (.cells #[h0 p,.slice a1 n1 c1,h0 j.kind,dJ j.text,h0 j.at_] 210)).cell? ⟨aa.heap.size,4,none⟩=some (h0 j.at_):=av.1 4;have o:=av.2.2;clear av aP bN F aK;change Code.wp _ _ _ _ (aa.alloc (.cells #[h0 p,.slice a1 n1 c1,h0 j.kind,dJ j.text,h0 j.at_] 210));generalize (aa.alloc (.cells #[h0 p,.slice a1 n1 c1,h0 j.kind,dJ j.text,h0 j.at_] 210))=aA at*;exact qen):Zp:=h
theorem P.qeo(h:Zp:=by
 go_region_with (first
  |(go_at_call 168;refine yai (bf.o _ (al.o.trans (by first|exact ib|exact ib.drew))) ?_;rintro e b7 ⟨rfl,b3⟩;have l:M (Kept 0 0 aA b7):=Kept.trans (by first|exact ib|exact ib.drew) b3;have J:=bl.o _ (al.o.trans l.o);obtain⟨L,ak,ao⟩:=cz.o _ l.o;clear b3)
  |(go_at_call 172;refine yai (t.o _) ?_;rintro e cf ⟨ci,(⟨c1,rfl⟩|⟨c1,rfl⟩)⟩;rotate_left;exact h1 rfl (.inr ⟨4,n.pos,bU.o c1,rfl,(al.o.trans (l.o.trans (Kept.trans (by first|exact ib|exact ib.drew) ci))).chg⟩);have bc:=Q c1;clear c1;have H:M _:=al.o.trans (l.o.trans (Kept.trans (by first|exact ib|exact ib.drew) ci));have Z:=bl.o _ H.o;clear ci)
  |(go_at_call 167;refine yai (bu.o _ H.o) ?_;rintro e bn ah;have u:=Q ah;obtain⟨st2,a,aC,K,rfl,_⟩|⟨c,q,K,rfl,_⟩:=ah;rotate_left;exact h1 rfl (by rw[aE.o bc.o];exact TqR.afterK H.o u.o);clear K))
 all_goals
  go_wp2
  go_ret
  rw[aE.o bc.o]
  exact TqR.afterK H.o u.o):Zp:=h
open P in
theorem JB{E ρ w st aO G}(h:Tq E ρ w st aO G)(g:Gd st){mp b a1 n1 c1 bv cap ys}(y:OfR w ρ (hZ bv 1 cap) ys)(aY:∀i∈ys,i<st.vs.length){p:Nat}{n}(bo:Dgs n.text)(ai:n.sym≠[])(az:n.text≠[]):
  Calls prog 162 #[ge E.T,.agg #[.iface 210 (.agg #[h0 p,.slice a1 n1 c1,h0 (cvT n).kind,dJ (cvT n).text,h0 ((cvT n).at_:Int)]),.map mp,.bool b],hZ bv 1 cap] w (TqR E ρ w aO G (yh st p (ys.getD 0 0) n)):=by
 exact qav
