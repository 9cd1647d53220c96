import Derived.Test.YtiacbhjphaldlaaGreatDoorP33
namespace Go.Proofs.Z
variable{a p P b i k st w}
variable{Zp:Prop}
open Tryz Go.RowKit Flt
set_option maxRecDepth 1000000
set_option maxHeartbeats 0
section
attribute[local go_sem] dI dG dF gh gj gn mkF fA eJ fU eL fV ez gy eH fB dY fW eM fX eO gz eQ fY eA gB eI fZ eB gU gV iF iG iH iI jb jc gW gX iJ iK iL iM jd je gD gq gY gF gu fS
variable{ρ:Nat->Nat}{aO:List TkV}{G ys:List Nat}{mp:Option Nat}{a1:Option Addr}{n1 c1 bv cap:Nat}
def yi(st:LSt)(p x0:Nat)(n:Tok):Rs (LSt×Nat):=if dS st x0≠1 then .error (4,p)else if lenB (ek n.text)=false then .error (4,n.pos)else eg st (dL 10 (ek n.text) (x0:Int) 0 0) p
theorem i1.qaw(h:Zp:=by
 have au:M (∀W,Kept 0 0 w W->_):=λW k=>vZ (h.keep k) I p;have x:M _:=λW=>qk bo ai az W;have bu:M (∀W,Kept 0 0 w W->lenB (ek n.text)=true->_):=λW k ab=>sP (h.keep k) g (dL 10 (ek n.text) (ys.getD 0 0:Nat) 0 0) (by show -1000000000<=ek n.text;have:=of_decide_eq_true ab;omega) (by show ek n.text<=1000000000;have:=of_decide_eq_true ab;omega) p;have aF:M (yi st p (ys.getD 0 0) n=if dS st (ys.getD 0 0)≠1 then .error (4,p)else if lenB (ek n.text)=false then .error (4,n.pos)else eg st (dL 10 (ek n.text) (ys.getD 0 0:Nat) 0 0) p):=rfl;generalize yi st p (ys.getD 0 0) n=r at aF⊢;have V:M _:=λc=>aF.o.trans (h3 c);have bU:M _:=λc d=>aF.o.trans ((h2 (λq=>q c)).trans (h3 d));have aE:M (dS st (ys.getD 0 0)=1->lenB (ek n.text)=true->_):=λc d=>aF.o.trans ((h2 (λq=>q c)).trans (h2 (by rw[d];decide)));clear h y aY g I U aF bo ai az;generalize eg st (dL 10 (ek n.text) (ys.getD 0 0:Nat) 0 0) p=bp at*;unfold dL at bu;generalize ys.getD 0 0=bG at*;generalize cvT n=j at*;unfold tkV at x;generalize ek n.text=T at*;have aw:M _:=mj w (.iface 208 (.agg #[h0 p,.slice a1 n1 c1,h0 j.kind,dJ j.text,h0 j.at_])) (.map mp) (.bool b);go_enter func162,ntmps162;go_upto_region 21 with (go_at_call 269;refine yai lE ?_;rintro e aa ⟨rfl,(bV:M _)⟩;obtain⟨ag,aP,aQ,aU,bN⟩:=aw.o _ bV.o;clear ag aQ aU);have F:=bV.o.trans (dE 0 0 aa (.cells #[h0 p,.slice a1 n1 c1,h0 j.kind,dJ j.text,h0 j.at_] 208));obtain⟨(al:M _),aK,m1,_,m3⟩:=aw.o _ F;have av:=(eo aa #[h0 p,.slice a1 n1 c1,h0 j.kind,dJ j.text,h0 j.at_] 208 (ib).chg (S:=λ_=>False) (λc=>c))
 have bj:(aa.alloc (.cells #[h0 p,.slice a1 n1 c1,h0 j.kind,dJ j.text,h0 j.at_] 208)).cell? ⟨aa.heap.size,2,none⟩=some (h0 j.kind):=av.1 2;have bI:(aa.alloc (.cells #[h0 p,.slice a1 n1 c1,h0 j.kind,dJ j.text,h0 j.at_] 208)).cell? ⟨aa.heap.size,3,none⟩=some (dJ j.text):=av.1 3;have bR:(aa.alloc (.cells #[h0 p,.slice a1 n1 c1,h0 j.kind,dJ j.text,h0 j.at_] 208)).cell? ⟨aa.heap.size,4,none⟩=some (h0 j.at_):=av.1 4;have o:=av.2.2;clear av aP bN F aK;change Code.wp _ _ _ _ (aa.alloc (.cells #[h0 p,.slice a1 n1 c1,h0 j.kind,dJ j.text,h0 j.at_] 208));generalize (aa.alloc (.cells #[h0 p,.slice a1 n1 c1,h0 j.kind,dJ j.text,h0 j.at_] 208))=aA at*;exact qen):Zp:=h
theorem i1.qeo(h:Zp:=by
 go_upto_region 22 with (go_at_call 170;refine yai (au.o _ al.o) ?_;rintro e b7 ⟨(⟨c1,rfl⟩|⟨c1,rfl⟩),b3⟩;rotate_left;exact h1 rfl (.inr ⟨4,p,V.o c1,rfl,(al.o.trans b3).chg⟩);have bM:=Q c1;clear c1;have J:=bl.o _ (al.o.trans b3);obtain⟨aj,_⟩:=bW.o _ (al.o.trans b3);obtain⟨L,ak,ao⟩:=cz.o _ b3;have l:=Q b3;have s:M _:=al.o.trans b3;clear b3)
 go_region_with (first
  |(go_at_call 171;refine yai (x.o _) ?_;rintro e cf ⟨ci,(⟨c1,rfl⟩|⟨c1,rfl⟩)⟩;rotate_left;exact h1 rfl (.inr ⟨4,n.pos,bU.o bM.o c1,rfl,(s.o.trans (Kept.trans (by first|exact ib|exact ib.drew) ci)).chg⟩);have bc:=Q c1;clear c1;have Z:=bl.o _ (s.o.trans (Kept.trans (by first|exact ib|exact ib.drew) ci));have H:M _:=s.o.trans (Kept.trans (by first|exact ib|exact ib.drew) ci);clear ci)
  |(go_at_call 167;refine yai (bu.o _ H.o bc.o) ?_;rintro e bn ah;have u:=Q ah;obtain⟨st2,a,aC,K,rfl,_⟩|⟨c,q,K,rfl,_⟩:=ah;rotate_left;exact h1 rfl (by rw[aE.o bM.o bc.o];exact TqR.afterK H.o u.o);clear K))
 all_goals
  go_wp2
  go_ret
  rw[aE.o bM.o bc.o]
  exact TqR.afterK H.o u.o):Zp:=h
open i1 in
theorem JC{E}(h:Tq E ρ w st aO G)(g:Gd st){b}(y:OfR w ρ (hZ bv 1 cap) ys)(aY:∀i∈ys,i<st.vs.length){p:Nat}{n}(bo:Dgs n.text)(ai:n.sym≠[])(az:n.text≠[]):
  Calls prog 162 #[ge E.T,.agg #[.iface 208 (.agg #[h0 p,.slice a1 n1 c1,h0 (cvT n).kind,dJ (cvT n).text,h0 ((cvT n).at_:Int)]),.map mp,.bool b],hZ bv 1 cap] w (TqR E ρ w aO G (yi st p (ys.getD 0 0) n)):=by
 exact qav
def sV(st:LSt)(p x0:Nat)(i n:Tok):Rs (LSt×Nat):=if dS st x0≠1 then .error (4,p)else if lenB (ek n.text)=false then .error (4,n.pos)else if jL (ek i.text) (ek n.text)=false then .error (4,i.pos)else eg st (dL 12 (ek n.text) (x0:Int) 0 (ek i.text)) p
theorem R.qaw(h:Zp:=by
 have au:M (∀W,Kept 0 0 w W->_):=λW k=>vZ (h.keep k) I p;have x:M _:=λW=>qk bo ai az W;have t:M (∀W,Calls prog 172 #[tkV (cvT i),h0 (ek n.text)] W λe A=>Kept 0 0 W A/\((jL (ek i.text) (ek n.text)=true/\e=.returned (h0 (ek i.text)))\/(jL (ek i.text) (ek n.text)=false/\e=Thr 4 (i.pos:Nat)))):=λW=>xX C D B W;have bu:M (∀W,Kept 0 0 w W->lenB (ek n.text)=true->_):=λW k ab=>sP (h.keep k) g (dL 12 (ek n.text) (ys.getD 0 0:Nat) 0 (ek i.text)) (by show -1000000000<=ek n.text;have:=of_decide_eq_true ab;omega) (by show ek n.text<=1000000000;have:=of_decide_eq_true ab;omega) p;have aF:M (sV st p (ys.getD 0 0) i n=if dS st (ys.getD 0 0)≠1 then .error (4,p)else if lenB (ek n.text)=false then .error (4,n.pos)else if jL (ek i.text) (ek n.text)=false then .error (4,i.pos)else eg st (dL 12 (ek n.text) (ys.getD 0 0:Nat) 0 (ek i.text)) p):=rfl;generalize sV st p (ys.getD 0 0) i n=r at aF⊢;have V:M _:=λc=>aF.o.trans (h3 c);have bU:M _:=λc d=>aF.o.trans ((h2 (λq=>q c)).trans (h3 d));have R:M (dS st (ys.getD 0 0)=1->lenB (ek n.text)=true->jL (ek i.text) (ek n.text)=false->_):=λc d e=>aF.o.trans ((h2 (λq=>q c)).trans ((h2 (by rw[d];decide)).trans (h3 e)));have aE:M (dS st (ys.getD 0 0)=1->lenB (ek n.text)=true->jL (ek i.text) (ek n.text)=true->_):=λc d e=>aF.o.trans ((h2 (λq=>q c)).trans ((h2 (by rw[d];decide)).trans (h2 (by rw[e];decide))));clear h y aY g I U aF bo ai az C D B;generalize eg st (dL 12 (ek n.text) (ys.getD 0 0:Nat) 0 (ek i.text)) p=bp at*;unfold dL at bu;generalize ys.getD 0 0=bG at*;generalize cvT n=j at*;generalize cvT i=f at*;unfold tkV at x t;generalize ek n.text=T at*;generalize ek i.text=P at*;have aw:M _:=mj w (.iface 212 (.agg #[h0 p,.slice a1 n1 c1,h0 f.kind,dJ f.text,h0 f.at_,h0 j.kind,dJ j.text,h0 j.at_])) (.map mp) (.bool b);go_enter func162,ntmps162;go_upto_region 28 with (go_at_call 269;refine yai lE ?_;rintro e aa ⟨rfl,(bV:M _)⟩;obtain⟨ag,aP,aQ,aU,bN⟩:=aw.o _ bV.o;clear ag aQ aU);have F:=bV.o.trans (dE 0 0 aa (.cells #[h0 p,.slice a1 n1 c1,h0 f.kind,dJ f.text,h0 f.at_,h0 j.kind,dJ j.text,h0 j.at_] 212));obtain⟨(al:M _),aK,m1,_,m3⟩:=aw.o _ F;have av:=(eo aa #[h0 p,.slice a1 n1 c1,h0 f.kind,dJ f.text,h0 f.at_,h0 j.kind,dJ j.text,h0 j.at_] 212 (ib).chg (S:=λ_=>False) (λc=>c))
 have bj:(aa.alloc (.cells #[h0 p,.slice a1 n1 c1,h0 f.kind,dJ f.text,h0 f.at_,h0 j.kind,dJ j.text,h0 j.at_] 212)).cell? ⟨aa.heap.size,2,none⟩=some (h0 f.kind):=av.1 2;have bI:(aa.alloc (.cells #[h0 p,.slice a1 n1 c1,h0 f.kind,dJ f.text,h0 f.at_,h0 j.kind,dJ j.text,h0 j.at_] 212)).cell? ⟨aa.heap.size,3,none⟩=some (dJ f.text):=av.1 3;have bR:(aa.alloc (.cells #[h0 p,.slice a1 n1 c1,h0 f.kind,dJ f.text,h0 f.at_,h0 j.kind,dJ j.text,h0 j.at_] 212)).cell? ⟨aa.heap.size,4,none⟩=some (h0 f.at_):=av.1 4;have bH:(aa.alloc (.cells #[h0 p,.slice a1 n1 c1,h0 f.kind,dJ f.text,h0 f.at_,h0 j.kind,dJ j.text,h0 j.at_] 212)).cell? ⟨aa.heap.size,5,none⟩=some (h0 j.kind):=av.1 5;have X:(aa.alloc (.cells #[h0 p,.slice a1 n1 c1,h0 f.kind,dJ f.text,h0 f.at_,h0 j.kind,dJ j.text,h0 j.at_] 212)).cell? ⟨aa.heap.size,6,none⟩=some (dJ j.text):=av.1 6;have O:(aa.alloc (.cells #[h0 p,.slice a1 n1 c1,h0 f.kind,dJ f.text,h0 f.at_,h0 j.kind,dJ j.text,h0 j.at_] 212)).cell? ⟨aa.heap.size,7,none⟩=some (h0 j.at_):=av.1 7;have o:=av.2.2;clear av aP bN F aK;change Code.wp _ _ _ _ (aa.alloc (.cells #[h0 p,.slice a1 n1 c1,h0 f.kind,dJ f.text,h0 f.at_,h0 j.kind,dJ j.text,h0 j.at_] 212));generalize (aa.alloc (.cells #[h0 p,.slice a1 n1 c1,h0 f.kind,dJ f.text,h0 f.at_,h0 j.kind,dJ j.text,h0 j.at_] 212))=aA at*;exact qgw):Zp:=h
theorem R.qgx(h:Zp:=by
 have cz:M (∀W,Kept 0 0 aA W->W.cell? ⟨bh,2,none⟩=some (h0 f.kind)/\W.cell? ⟨bh,3,none⟩=some (dJ f.text)/\W.cell? ⟨bh,4,none⟩=some (h0 f.at_)/\W.cell? ⟨bh,5,none⟩=some (h0 j.kind)/\W.cell? ⟨bh,6,none⟩=some (dJ j.text)/\W.cell? ⟨bh,7,none⟩=some (h0 j.at_)):=λW k=>⟨dZ k o bj,dZ k o bI,dZ k o bR,dZ k o bH,dZ k o X,dZ k o O⟩
 go_upto_region 29 with (go_at_call 170;refine yai (au.o _ al.o) ?_;rintro e b7 ⟨(⟨c1,rfl⟩|⟨c1,rfl⟩),b3⟩;rotate_left;exact h1 rfl (.inr ⟨4,p,V.o c1,rfl,(al.o.trans b3).chg⟩);have bM:=Q c1;clear c1;have J:=bl.o _ (al.o.trans b3);obtain⟨aj,_⟩:=bW.o _ (al.o.trans b3);obtain⟨L,ak,ao,ad,ae,am⟩:=cz.o _ b3;have l:=Q b3;have s:M _:=al.o.trans b3;clear b3);go_upto_region 30 with (go_at_call 171;refine yai (x.o _) ?_;rintro e cf ⟨ci,(⟨c1,rfl⟩|⟨c1,rfl⟩)⟩;rotate_left;exact h1 rfl (.inr ⟨4,n.pos,bU.o bM.o c1,rfl,(s.o.trans ci).chg⟩);have bc:=Q c1;clear c1;have Z:=bl.o _ (s.o.trans ci);have H:M _:=s.o.trans ci;obtain⟨i1,S,Y,_,_,_⟩:=cz.o _ (l.o.trans ci);clear ci)
 go_region_with (first
  |(go_at_call 172;refine yai (t.o _) ?_;rintro e cI ⟨cP,(⟨c1,rfl⟩|⟨c1,rfl⟩)⟩;rotate_left;exact h1 rfl (.inr ⟨4,i.pos,R.o bM.o bc.o c1,rfl,(H.o.trans (Kept.trans (by first|exact ib|exact ib.drew) cP)).chg⟩);have v:=Q c1;clear c1;have z:M _:=H.o.trans (Kept.trans (by first|exact ib|exact ib.drew) cP);have ap:=bl.o _ z.o;clear cP)
  |(go_at_call 167;refine yai (bu.o _ z.o bc.o) ?_;rintro e bn ah;have u:=Q ah;obtain⟨st2,a,aC,K,rfl,_⟩|⟨c,q,K,rfl,_⟩:=ah;rotate_left;exact h1 rfl (by rw[aE.o bM.o bc.o v.o];exact TqR.afterK z.o u.o);clear K))
 all_goals
  go_wp2
  go_ret
  rw[aE.o bM.o bc.o v.o]
  exact TqR.afterK z.o u.o):Zp:=h
open R in
theorem M0{E}(h:Tq E ρ w st aO G)(g:Gd st){b}(y:OfR w ρ (hZ bv 1 cap) ys)(aY:∀i∈ys,i<st.vs.length){p:Nat}{i}(C:Dgs i.text)(D:i.sym≠[])(B:i.text≠[]){n}(bo:Dgs n.text)(ai:n.sym≠[])(az:n.text≠[]):
  Calls prog 162 #[ge E.T,.agg #[.iface 212 (.agg #[h0 p,.slice a1 n1 c1,h0 (cvT i).kind,dJ (cvT i).text,h0 ((cvT i).at_:Int),h0 (cvT n).kind,dJ (cvT n).text,h0 ((cvT n).at_:Int)]),.map mp,.bool b],hZ bv 1 cap] w (TqR E ρ w aO G (sV st p (ys.getD 0 0) i n)):=by
 exact qav
end
section
variable{st s:LSt}{r:Rs (LSt×Nat)}
def CM(st:LSt)(r:Rs (LSt×Nat)):Prop:=∀s x,r=.ok (s,x)->st.calls<=s.calls
theorem CM.err{q}:CM st (.error q):=λs x h=>by cases h
theorem CM.back(h:a.calls<=b.calls)(k:CM b r):CM a r:=λs x e=>yan h (k s x e)
theorem kB(st v p):CM st (eg st v p):=λs x h=>by
 grind[eg]
theorem wj(n p):∀(G:List Nat) (st s:LSt) (js:List Nat),gE n p st G=.ok (s,js)->st.calls<=s.calls
 |[],st,s,js,h=>by grind[gE]
 |i::r,st,s,js,h=>by
  rw[gE]at h
  split at h
  ·cases aB:eg st (dL 10 n (i:Int) 0 0) p with
   |error q=>grind
   |ok y=>
    obtain⟨ak,j⟩:=y
    rw[aB]at h
    simp only at h
    cases bi:gE n p ak r with
    |error q=>grind
    |ok y=>
     obtain⟨az,a⟩:=y
     rw[bi]at h
     cases h
     exact yan (kB _ _ p _ j aB) (wj n p r _ _ _ bi)
  ·cases bi:gE n p st r with
   |error q=>grind
   |ok y=>
    obtain⟨az,a⟩:=y
    rw[bi]at h
    cases h
    exact wj n p r _ _ _ bi
theorem wk{G js}(h:im st G p=.ok (s,js)):st.calls<=s.calls:=by
 unfold im at h;split at h
 ·exact wj _ p _ _ s _ h
 cases h
theorem qm{st m}:CM st (ft st m p):=λs x h=>by
 grind[ft]
theorem M3{st o}:CM st (lz st o a b):=by
 unfold lz;cases bi:im st [a,b] o.pos with
 |error q=>exact .err
 |ok y=>exact CM.back (wk bi) (kB _ _ _)
theorem JD(st k a b):CM st (kS st k a b):=by
 unfold kS;cases bi:im st [a,b] k.pos with
 |error q=>exact .err
 |ok y=>
  simp only;split
  ·exact CM.back (wk bi) (kB _ _ _)
  cases aB:eg y.1 (dL 4 (dS y.1 (y.2.getD 0 0)) (y.2.getD 0 0:Nat) (y.2.getD 1 0:Nat) 0) k.pos with
  |error q=>exact .err
  |ok aX=>exact CM.back (yan (wk bi) (kB _ _ _ _ _ aB)) (kB _ _ _)
theorem M4(st k a b c):CM st (po st k a b c):=by
 unfold po;cases bi:im st [a,b,c] k.pos with
 |error q=>exact .err
 |ok y=>exact CM.back (wk bi) (kB _ _ _)
theorem CD(st k a n):CM st (ju st k a n):=by
 unfold ju;split
 ·split
  ·exact .err
  exact kB _ _ _
 split
 ·exact .err
 split
 ·exact .err
 exact kB _ _ _
theorem CE{st n}:CM st (jK st k a i n):=by
 unfold jK;split
 ·exact .err
 split
 ·exact .err
 split
 ·exact .err
 exact kB _ _ _
theorem JE{st x}:CM st (mg st k a x):=by
 unfold mg;split
 ·exact .err
 exact qm
theorem M5(st k a x d):CM st (lX st k a x d):=by
 unfold lX;split
 ·cases aB:eg st (dL 10 (dS st x) (d:Int) 0 0) k.pos with
  |error q=>exact .err
  |ok y=>exact CM.back (kB _ _ _ _ _ aB) qm
 split
 ·exact .err
 exact qm
theorem kH(z:∀r,a=some r->CM st r)(J:∀s x,∀r,p s x=some r->CM s r):∀r,iE a p=some r->CM st r:=λr h=>by
 cases F:a with
 |none=>rw[F]at h;cases h
 |some r1=>
  rw[F]at h
  obtain q|⟨s,x⟩:=r1
  ·cases h;exact .err
  ·exact CM.back (z _ F s x rfl) (J s x r h)
theorem wm{p}(aB:∀s e r,p s e=some r->CM s r):∀(es:List Ex) (st s:LSt) (G:List Nat),eP p st es=some (.ok (s,G))->st.calls<=s.calls
 |[],st,s,G,h=>by grind[eP]
 |e::es,st,s,G,h=>by
  rw[eP]at h
  cases z:p st e with
  |none=>grind
  |some r1=>
   rw[z]at h
   obtain bg|⟨ak,x⟩:=r1
   ·cases h
   ·simp only at h
    cases J:eP p ak es with
    |none=>grind
    |some bp=>
     rw[J]at h
     obtain a8|⟨az,ys⟩:=bp
     ·cases h
     ·cases h
      exact yan (aB _ e _ z _ x rfl) (wm aB _ _ s _ J)
theorem rm:∀(f:Nat) (st:LSt) (loc:Loc) (e:Ex) (r:Rs (LSt×Nat)),dQ f st loc e=some r->CM st r
 |0,st,loc,e,r,h=>by rw[dQ]at h;cases h
 |f+1,st,loc,e,r,h=>by
  have O:∀st loc e r,dQ f st loc e=some r->_:=λst loc e r h=>rm f _ _ e r h
  have g:∀{st:LSt}{a r:Rs _},CM st a->some a=some r->_:=λh e=>by cases e;exact h
  cases e with
  |num t=>rw[dQ]at h;exact g (kB _ _ _) h
  |name t=>
   rw[dQ]at h
   cases aD:dX st loc t with
   |error q=>rw[aD]at h;exact g .err h
   |ok v=>rw[aD]at h;exact g (λs x e=>by cases e;exact yac) h
  |neg o a=>grind[dQ,kH,kB]
  |bin o a b=>rw[dQ]at h;exact kH (λr h=>O _ _ _ r h) (λs x r h=>kH (λr h=>O _ _ _ r h) (λs x r h=>g M3 h) r h) r h
  |call t es=>
   rw[dQ]at h
   cases bi:d8 st.names t.text with
   |none=>rw[bi]at h;exact g .err h
   |some b=>
    rw[bi]at h
    cases b with
    |val _ _=>exact g .err h
    |fn bb ps body=>
     simp only at h
     by_cases c:ps.length=es.length
     ·rw[h3 c]at h
      cases F:eP (λs e=>dQ f s loc e) st es with
      |none=>rw[F]at h;cases h
      |some q=>
       rw[F]at h
       obtain q|⟨ak,G⟩:=q
       ·exact g .err h
       ·have aj:=wm (λs e r h=>O s _ e r h) _ _ _ G F
        simp only at h
        by_cases d:500<=ak.calls
        ·rw[h3 d]at h;exact g .err h
        ·rw[h2 d]at h
         exact CM.back (by show st.calls<=ak.calls+1;omega) (O _ _ _ r h)
     ·rw[h2 c]at h;exact g .err h
  |key1 k a=>
   grind[dQ,kH,kB]
  |key2 k a b=>grind[dQ,kH,JD]
  |key3 k a b c=>grind[dQ,kH,M4]
  |keyN k a n=>grind[dQ,kH,CD]
  |put k a i n=>rw[dQ]at h;exact kH (λr h=>O _ _ _ r h) (λs x r h=>g CE h) r h
  |grad k a x=>
   rw[dQ]at h
   cases aD:dX st loc x with
   |error q=>rw[aD]at h;exact g .err h
   |ok v=>rw[aD]at h;exact kH (λr h=>O _ _ _ r h) (λs x r h=>g JE h) r h
  |jvp k a x d=>
   rw[dQ]at h
   cases aD:dX st loc x with
   |error q=>rw[aD]at h;exact g .err h
   |ok v=>grind[kH,M5]
def EvT{α:Type}(E:Nat->Option (Rs α)):Prop:=∃r f,∀g,f<=g->E g=some r
theorem EvT.const{au}(r:Rs au):EvT (λ_=>some r):=⟨r,0,λ_ _=>rfl⟩
theorem EvT.succ{au}{E F:Nat->Option (Rs au)}(h:∀g,E (g+1)=F g)(k:EvT F):EvT E:=by
 obtain⟨r,f,k⟩:=k;refine⟨r,f+1,λg aG=>?_⟩;obtain⟨aY,rfl⟩:∃aY,g=aY+1:=⟨g-1,by omega⟩
 grind
theorem EvT.then{aH}{p:Nat->LSt->Nat->Option (Rs (LSt×Nat))}(z:EvT aH)(J:∀f s x,aH f=some (.ok (s,x))->EvT (λg=>p g s x)):EvT (λg=>iE (aH g) (p g)):=by
 obtain⟨r1,aS,af⟩:=z;obtain q|⟨s,x⟩:=r1
 ·exact⟨_,_,λg aG=>by dsimp only;rw[af g aG];rfl⟩
 obtain⟨bp,bO,ad⟩:=J _ s x (af _ yac);exact⟨_,max aS bO,λg aG=>by dsimp only;rw[af g xaa];exact ad g xaa⟩
theorem yj{p:Nat->LSt->Ex->Option (Rs (LSt×Nat))}(aB:∀g s e r,p g s e=some r->CM s r):∀(es:List Ex) (st:LSt),(∀e∈es,∀s,st.calls<=s.calls->EvT (λg=>p g s e))->EvT (λg=>eP (p g) st es)
 |[],st,_=>⟨.ok (st,[]),0,λg _=>by dsimp only;rw[eP]⟩
 |e::es,st,h=>by
  obtain⟨r1,aS,af⟩:=h e xac _ yac
  dsimp only at af
  obtain q|⟨s,x⟩:=r1
  ·exact⟨.error q,aS,λg aG=>by dsimp only;rw[eP,af g aG]⟩
  ·have ai:=aB _ _ e _ (af _ yac) s x rfl
   obtain⟨bp,bO,ad⟩:=yj aB es s (λe bl s' h'=>h e (by simp[bl]) _ (yan ai h'))
   dsimp only at ad
   obtain q|⟨az,G⟩:=bp
   ·exact⟨.error q,max aS bO,λg aG=>by dsimp only;rw[eP,af g xaa];simp only;rw[ad g xaa]⟩
   ·exact⟨.ok (az,x::G),max aS bO,λg aG=>by dsimp only;rw[eP,af g xaa];simp only;rw[ad g xaa]⟩
theorem sW:∀(k n:Nat) (e:Ex),SizeOf.sizeOf e<=n->∀(st:LSt) (loc:Loc),501-st.calls<=k->EvT (λg=>dQ g st loc e)
 |k,0,e,V,st,loc,H=>by cases e<;>simp at V
 |k,n+1,e,V,st,loc,H=>by
  have sub:∀(a:Ex),SizeOf.sizeOf a<=n->∀s,st.calls<=s.calls->EvT (λg=>dQ g s loc a):=λa F s ai=>sW k n a F s loc xaa
  have cb:∀{g:Nat}{a:Ex}{s s':LSt}{x:Nat},dQ g s loc a=some (.ok (s',x))->_:=λh=>rm _ _ _ _ _ h _ _ rfl
  cases e with
  |num t=>exact .succ (λg=>by rw[dQ]) (.const _)
  |name t=>exact .succ (λg=>by rw[dQ]) (.const _)
  |neg o a=>exact .succ (λg=>by rw[dQ]) (.then (sub a (by simp at V;omega) st yac) (λf s x h=>.const _))
  |bin o a b=>exact .succ (λg=>by rw[dQ]) (.then (sub a (by simp at V;omega) st yac) (λf s x h=>.then (sub b (by simp at V;omega) s (cb h)) (λf s x h=>.const _)))
  |call t es=>
   refine .succ (λg=>by rw[dQ]) ?_
   cases bi:d8 st.names t.text with
   |none=>exact .const _
   |some b=>
    cases b with
    |val _ _=>exact .const _
    |fn bb ps body=>
     simp only
     by_cases c:ps.length=es.length
     ·simp only[h3 c]
      obtain⟨R,aS,af⟩:=yj (p:=λg s e=>dQ g s loc e) (λg s e r h=>rm g s loc e r h) es st (λe bl s ai=>sub e (by have:=List.sizeOf_lt_of_mem bl;simp at V;omega) s ai)
      dsimp only at af
      obtain q|⟨ak,G⟩:=R
      ·exact⟨.error q,aS,λg aG=>by dsimp only;rw[af g aG]⟩
      ·have ai:=wm (p:=λs e=>dQ aS s loc e) (λs e r h=>rm aS s loc e r h) es st ak G (af aS yac)
       by_cases d:500<=ak.calls
       ·exact⟨.error (5,t.pos),aS,λg aG=>by dsimp only;rw[af g aG];simp only;rw[h3 d]⟩
       ·match k,H with
        |0,H=>omega
        |k+1,H=>
         obtain⟨bp,bO,ad⟩:=sW k (SizeOf.sizeOf body) body yac {ak with calls:=ak.calls+1} ((ps.map (·.text)).zip G) (by show 501-(ak.calls+1)<=k;omega)
         dsimp only at ad
         exact⟨bp,max aS bO,λg aG=>by dsimp only;rw[af g xaa];simp only;rw[h2 d];exact ad g xaa⟩
     ·simp only[h2 c];exact .const _
  |key1 B a=>exact .succ (λg=>by rw[dQ]) (.then (sub a (by simp at V;omega) st yac) (λf s x h=>.const _))
  |key2 B a b=>exact .succ (λg=>by rw[dQ]) (.then (sub a (by simp at V;omega) st yac) (λf s x h=>.then (sub b (by simp at V;omega) s (cb h)) (λf s x h=>.const _)))
  |key3 B a b c=>exact .succ (λg=>by rw[dQ]) (.then (sub a (by simp at V;omega) st yac) (λf s x h=>.then (sub b (by simp at V;omega) s (cb h)) (λf az x J=>.then (sub c (by simp at V;omega) az (yan (cb h) (cb J))) (λf s x h=>.const _))))
  |keyN B a m=>exact .succ (λg=>by rw[dQ]) (.then (sub a (by simp at V;omega) st yac) (λf s x h=>.const _))
  |put B a i m=>exact .succ (λg=>by rw[dQ]) (.then (sub a (by simp at V;omega) st yac) (λf s x h=>.const _))
  |grad B a x=>
   refine .succ (λg=>by rw[dQ]) ?_
   cases dX st loc x with
   |error q=>exact .const _
   |ok v=>exact .then (sub a (by simp at V;omega) st yac) (λf s x h=>.const _)
  |jvp B a x d=>
   refine .succ (λg=>by rw[dQ]) ?_
   cases dX st loc x with
   |error q=>exact .const _
   |ok v=>exact .then (sub a (by simp at V;omega) st yac) (λf s x h=>.then (sub d (by simp at V;omega) s (cb h)) (λf s x h=>.const _))
termination_by k n=>(k,n)
theorem m8(st loc e):EvT (λg=>dQ g st loc e):=sW _ _ e yac st loc yac
theorem AZ(e i s):∀(k:Nat) (st:LSt),EvT (λg=>kr g e i s k st)
 |0,st=>⟨.ok st,0,λg _=>by dsimp only;rw[kr]⟩
 |k+1,st=>by
  obtain⟨r1,aS,af⟩:=m8 st [] e
  dsimp only at af
  obtain q|⟨ak,v⟩:=r1
  ·exact⟨.error q,aS,λg aG=>by dsimp only;rw[kr,af g aG]⟩
  ·obtain⟨bp,bO,ad⟩:=AZ e i s k (ak.setV i s v)
   exact⟨bp,max aS bO,λg aG=>by dsimp only;rw[kr,af g xaa];exact ad g xaa⟩
theorem FA(st s):EvT (λg=>fF g st s):=by
 cases s with
 |outS k e=>
  simp only[fF];by_cases c:50<=st.outs.length
  ·simp only[h3 c];exact .const _
  simp only[h2 c];obtain⟨r,f,h⟩:=m8 st [] e;dsimp only at h;exact⟨EP r,f,λg aG=>by dsimp only;rw[h g aG];rfl⟩
 |rep i n e=>
  simp only[fF];cases d8 st.names n.text with
  |none=>exact .const _
  |some b=>
   cases b with
   |fn _ _ _=>exact .const _
   |val _ _=>
    simp only;by_cases c:100<ek i.text
    ·simp only[h3 c];exact .const _
    simp only[h2 c];exact AZ _ _ _ _ _
 |defS n ps e=>simp only[fF,lJ];cases d8 st.names n.text<;>exact .const _
 |inS n l=>simp only[fF,lJ];cases d8 st.names n.text<;>exact .const _
 |letS n e=>
  simp only[fF,lJ];cases d8 st.names n.text with
  |some _=>exact .const _
  |none=>
   obtain⟨r,f,h⟩:=m8 st [] e;dsimp only at h;exact⟨mI n.text r,f,λg aG=>by dsimp only;rw[h g aG];rfl⟩
theorem sX:∀(aI:List Sm) (st:LSt),EvT (λg=>kM g st aI)
 |[],st=>⟨.ok st,0,λg _=>by dsimp only;rw[kM]⟩
 |s::aI,st=>by
  obtain⟨r1,aS,af⟩:=FA st s
  dsimp only at af
  obtain q|ak:=r1
  ·exact⟨.error q,aS,λg aG=>by dsimp only;rw[kM,af g aG]⟩
  ·obtain⟨bp,bO,ad⟩:=sX aI ak
   exact⟨bp,max aS bO,λg aG=>by dsimp only;rw[kM,af g xaa];exact ad g xaa⟩
theorem A0{ins vs}(k)(h:okV ins vs i=true):okV (ins++[k]) vs i=true:=by
 unfold okV at h⊢;by_cases c:(vs.getD i h7).op=0
 ·rw[h3 c]at h⊢;simp only[Bool.and_eq_true]at h⊢;obtain⟨z,J,al⟩:=h;unfold jL at J⊢;grind
 grind
theorem JF(ins vs){k}(H:1<=k/\k<=1000):okV (ins++[k]) (vs++[dL 0 k (ins.length:Int) 0 0]) vs.length=true:=by
 have aD:(vs++[dL 0 k (ins.length:Int) 0 0]).getD vs.length h7=dL 0 k (ins.length:Int) 0 0:=by
  rw[yah,yaq yac,Nat.sub_self];rfl
 unfold okV;rw[aD,h3 (show(dL 0 k (ins.length:Int) 0 0).op=0 from rfl)];simp only[Bool.and_eq_true];refine⟨⟨?_,?_⟩,?_,?_⟩
 ·show lenB k=true;unfold lenB;exact decide_eq_true H
 ·simp[jr,cnt,lm]
 ·show jL (ins.length:Int) _=true;unfold jL;exact decide_eq_true ⟨by omega,by rw[yak];simp only[List.length_singleton];omega⟩
 show(k==(ins++[k]).getD ((ins.length:Int)).toNat 0)=true;rw[Int.toNat_natCast,yah,yaq yac,Nat.sub_self];simp
theorem FB(g:Gd st)(k)(h:st.ins.length<20):Gd {st with ins:=st.ins++[k]}:=
 ⟨g.n,g.c,List.all_eq_true.2 (λi hi=>A0 k (List.all_eq_true.1 g.ok i hi)),g.k,by grind,g.o,g.m⟩
theorem KX(g:Gd st){k}(H:1<=k/\k<=1000):GVal (st.ins++[k]) (st.vs++[dL 0 k (st.ins.length:Int) 0 0]):=by
 refine⟨λi hi=>?_,sI g.k (by grind)⟩;rw[yak,List.length_singleton]at hi;by_cases c:i<st.vs.length
 ·exact vd c (A0 k (g.v.1 i c))
 grind[JF]
def M6:Sm->Prop
 |.inS _ l=>Dgs l.text
 |.letS _ e=>EOK e
 |.rep i _ e=>Dgs i.text/\EOK e
 |.defS _ _ e=>EOK e
 |.outS _ e=>EOK e
structure Sg(a b:LSt):Prop where
 g:Gd b
 nm:NmOK b
 n:a.vs.length<=b.vs.length
 m:b.names.length<=a.names.length+1
theorem A1(h:NmOK st){b}(I:BOK st.vs.length b):NmOK {st with names:=st.names++[b]}:=λx ar=>by
 obtain c|c:=List.mem_append.1 (show x∈st.names++[b] from ar)
 ·exact h x c
 simp_all
theorem A2(g:Gd st){b}(h:st.names.length<5000):Gd {st with names:=st.names++[b]}:=
 ⟨g.n,g.c,g.ok,g.k,g.i,g.o,by grind⟩
theorem M7(g:Gd st){v}(h:st.outs.length<50):Gd {st with outs:=st.outs++[v]}:=
 ⟨g.n,g.c,g.ok,g.k,g.i,by grind,g.m⟩
theorem uF{g t}(aR:st.names.length=g.names.length)(V:g.vs.length<=st.vs.length)(bb:NmOK st)(bL:g.names.length<5000)(ah:RsG st r)(h:mI t r=.ok s):Sg g s:=by
 obtain q|⟨ak,v⟩:=r
 ·cases h
 cases h;obtain⟨w,aD⟩:=ah _ v rfl;exact⟨A2 w.g (by rw[w.m,aR];exact bL),A1 (bb.gw w) aD,yan V w.n,by show(ak.names++[_]).length<=_;rw[yak,w.m,aR];simp⟩
theorem yl{f e}(bl:EOK e)(i s):∀(k:Nat) (st s':LSt),Gd st->NmOK st->kr f e i s k st=some (.ok s')->Gd s'/\NmOK s'/\st.vs.length<=s'.vs.length/\s'.names.length=st.names.length
 |0,st,s',g,bb,h=>by grind[kr]
 |k+1,st,s',g,bb,h=>by
  rw[kr]at h
  cases z:dQ f st [] e with
  |none=>grind
  |some r1=>
   rw[z]at h
   obtain q|⟨ak,v⟩:=r1
   ·cases h
   ·obtain⟨w,aD⟩:=fE f _ _ e g bb (λb I=>by cases I) bl _ z _ v rfl
    have aJ:Gd (ak.setV i s v):=⟨w.g.n,w.g.c,w.g.ok,w.g.k,w.g.i,w.g.o,by show(ak.names.set i _).length<=5000;rw[List.length_set];exact w.g.m⟩
    have aI:NmOK (ak.setV i s v):=λb I=>by
     obtain c|c:=List.mem_or_eq_of_mem_set (show b∈ak.names.set i _ from I)
     ·exact bb.gw w b c
     ·subst c;exact aD
    obtain⟨af,ad,a5,b0⟩:=yl bl i s k _ _ aJ aI h
    exact⟨af,ad,yan w.n a5,by rw[b0];show(ak.names.set i _).length=_;rw[List.length_set,w.m]⟩
theorem uG{f s' s}(g:Gd st)(bb:NmOK st)(bL:st.names.length<5000)(ai:M6 s)(h:fF f st s=some (.ok s')):Sg st s':=by
 cases s with
 |outS k e=>
  simp only[fF]at h;by_cases c:50<=st.outs.length
  ·grind
  rw[h2 c]at h;cases z:dQ f st [] e with
  |none=>grind
  |some r1=>
   rw[z]at h;obtain q|⟨ak,v⟩:=r1
   ·cases h
   obtain⟨w,aD⟩:=fE f _ _ e g bb (λb I=>by cases I) ai _ z _ v rfl;cases h;exact⟨M7 w.g (ix w.o),(λb I=>bb.gw w b I),w.n,by show ak.names.length<=_;rw[w.m];omega⟩
 |rep i n e=>
  simp only[fF]at h;split at h
  ·split at h
   ·cases h
   obtain⟨af,ad,a5,b0⟩:=yl ai.2 _ _ _ _ _ g bb h;exact⟨af,ad,a5,by omega⟩
  cases h
 |defS n ps e=>
  simp only[fF,lJ]at h;split at h
  ·cases h
  simp only[tR]at h;split at h
  ·cases h
  cases h;exact⟨A2 g bL,A1 bb ai,yac,by simp_all⟩
 |letS n e=>
  simp only[fF,lJ]at h;split at h
  ·cases h
  cases z:dQ f st [] e with
  |none=>grind
  |some r1=>
   rw[z]at h;exact uF rfl yac bb bL (fE f _ _ e g bb (λb I=>by cases I) ai _ z) (h4 h)
 |inS n l=>
  simp only[fF,lJ]at h;split at h
  ·cases h
  simp only[inR]at h;split at h
  ·cases h
  split at h
  ·cases h
  rename_i c1 c2;have H:1<=ek l.text/\ek l.text<=1000:=xaa;exact uF (st:={st with ins:=st.ins++[ek _]}) rfl yac bb bL (iO (FB g _ xaa) (KX g H)) (h4 h)
end
section
attribute[local go_sem] dI dG dF
noncomputable abbrev P3 (n:Nat):Code:=(Tryz.f88.body.bind (oq n)).getD .skip
theorem M8{W aM aH n1 K aE ag base cap bW V o L U ins outs bc act us R q bb ax c d f h j n r s t u v x y aX B C aA E F bv Y aU ab aO Maa N z i1 S T a7 aI X dd dg ao aG I bP bQ aT bR bS bT bU bV bY g aJ m bZ aN b0 aC b3 a8 b4 b5 bk br bs bu bx er bz bA bf bB bC bG bE bF ad al bI aS aL be bJ bL bM d2 bN bO cg a1 a2 a3 a4 bX c6 bg aW bj c9 aq aB aQ dp ai ds dv D d0 aV aD a0 bH bd a5 a9 d1 am bt d3 e0 d4 bh ar b9 cb cd ce cf bi ae aF ah ba b8 b7 J l cv d5 aP bD aK ci cl cn co cp cr ct cx cz cA cF cG cI cM cO cP cS cT cX c7 c8 bK}(O:M (LG w W aM aH L n1 K U aE ag ins outs us bc act base R (some ⟨bW,0,none⟩) cap))(aj:us.length<=900000)(av:o<us.length)(aZ:o<V)(aR:bc.length=V)(g3:(us.getD o h7).len=bb)(an:bc.getD o 0=q)(H:∀(A:World) (aY cap':Nat) (ea eb ec ee ef ei ej el em en ep ew ex ey:Value),M (LG w A aM aH L n1 K U aE ag ins outs (us++[dL 2 bb q p 0]) bc act base (some aY) (some ⟨aY,0,none⟩) cap')->ax ⟨#[b,a,c,ge w.heap.size,d,f,h,i,j,k,hZ aM V V,n,r,s,h0 o,t,h0 p,u,v,x,y,aX,B,C,aA,E,F,bv,Y,aU,ab,aO,Maa,N,z,P,i1,S,T,a7,aI,X,dd,dg,ao,aG,I,bP,bQ,aT,bR,bS,bT,bU,bV,bY,g,aJ,m,bZ,aN,b0,aC,b3,a8,b4,b5,bk,br,bs,bu,bx,er,bz,bA,bf,bB,bC,bG,bE,bF,ad,al,bI,aS,aL,be,bJ,bL,bM,d2,bN,bO,cg,a1,a2,a3,a4,bX,c6,bg,aW,bj,c9,aq,aB,aQ,dp,ai,ds,dv,D,d0,aV,aD,a0,bH,bd,a5,a9,d1,am,bt,d3,e0,d4,bh,ar,b9,cb,cd,ce,cf,ea,eb,ec,ee,ef,ei,ej,el,em,en,ep,ew,ex,ey,ci,cl,cn,co,cp,cr,ct,cx,cz,cA,cF,cG,cI,cM,cO,cP,cS,cT,cX,c7,c8,bK],[]⟩ A):
  Code.wp prog (P3 27) (Exit.then ax λ_ _ _=>False) ⟨#[b,a,c,ge w.heap.size,d,f,h,i,j,k,hZ aM V V,n,r,s,h0 o,t,h0 p,u,v,x,y,aX,B,C,aA,E,F,bv,Y,aU,ab,aO,Maa,N,z,P,i1,S,T,a7,aI,X,dd,dg,ao,aG,I,bP,bQ,aT,bR,bS,bT,bU,bV,bY,g,aJ,m,bZ,aN,b0,aC,b3,a8,b4,b5,bk,br,bs,bu,bx,er,bz,bA,bf,bB,bC,bG,bE,bF,ad,al,bI,aS,aL,be,bJ,bL,bM,d2,bN,bO,cg,a1,a2,a3,a4,bX,c6,bg,aW,bj,c9,aq,aB,aQ,dp,ai,ds,dv,D,d0,aV,aD,a0,bH,bd,a5,a9,d1,am,bt,d3,e0,d4,bh,ar,b9,cb,cd,ce,cf,bi,ae,aF,ah,ba,b8,b7,J,l,cv,d5,aP,bD,aK,ci,cl,cn,co,cp,cr,ct,cx,cz,cA,cF,cG,cI,cM,cO,cP,cS,cT,cX,c7,c8,bK],[]⟩ W:=by
 have ay:=Q H;clear H;have bq:=O.o.l.g.c0;have ak:=O.o.l.g.c1;have az:=O.o.l.g.c2;obtain⟨e1,f0,_,_,bo⟩:=O.o.l.read xaa;cases f0;have G:=(bo o av).c1;rw[g3]at G;have bm:=IR.cell O.o.m o xaa;rw[an]at bm;have hn:0<=(o:Int):=xaa;have ca:(o:Int)<us.length:=xaa;have b6:(o:Int)<V:=xaa;clear g3 an bo aR av aZ;conv=>arg 2;whnf
 go_region_with (first
  |(go_at_call 109;refine yai (LK.call O.o.l ((dH W).trans af) (dL 2 bb q p 0) xaa) ?_;rintro e Z ⟨aY,cap',rfl,⟨aw,b2⟩,⟨u1,r1⟩,⟨ap,bp⟩,au,bl⟩;have a6:=au 0;have bn:=au 1;have cc:=au 2;have ch:M _:=O.o.stq bl.o.1 bl.o.2;clear au bl)
  |(go_at_call 37;refine yai iy ?_;rintro e aa ⟨rfl,af⟩;have b1:=(LG.keep O.o ((dH W).trans af)).l.g.c0;have bw:=(LG.keep O.o ((dH W).trans af)).l.g.c1;have p2:=(LG.keep O.o ((dH W).trans af)).l.g.c2))
 all_goals exact ay.o _ _ _ _ _ _ _ _ _ _ _ _ _ _ _ _ _ ch
theorem JG{W}(bL:W.cell? ⟨P,5,none⟩=some (h0 0))(bf:W.cell? ⟨P,6,none⟩=some (h0 0))(fr:∀o,W.frozen? ⟨P,o,none⟩=false)(c)(p:Nat)(Maa)(bH:Maa P):
  Calls prog 32 #[ge P,h0 c,h0 p] W λe A=>e=.returned (h0 (-1))/\Bad W P Maa c p A/\∀o,o≠5->o≠6->A.cell? ⟨P,o,none⟩=W.cell? ⟨P,o,none⟩:=by
 have bS:=fr 5;have bd:=fr 6;have bm:M (((W.setCell _ _).setCell ⟨P,6,_⟩ (h0 p)).cell? _=some (h0 c)):=(dR (.inr xaa)).trans (eR bL);have bP:M (((W.setCell ⟨P,5,_⟩ (h0 c)).setCell _ (h0 p)).cell? _=some _):=eR ((dR (.inr xaa)).trans bf);have R3:M _:=Chg.andThen ((d9 W ⟨P,5,none⟩ (h0 c) yab).chg1 bH) ((d9 _ ⟨P,6,none⟩ (h0 p) yab).chg1 bH);have S:M (∀o,o≠5->o≠6->((W.setCell ⟨P,5,_⟩ (h0 c)).setCell ⟨P,6,_⟩ (h0 p)).cell? ⟨P,o,_⟩=W.cell? _):=λo z J=>(dR (.inr (λe=>J e.symm))).trans (dR (.inr (λe=>z e.symm)));clear fr bH;go_enter func32,ntmps32;go_wp2;go_ret;exact⟨rfl,⟨bm.o,bP.o,R3.o⟩,S.o⟩
theorem B.qaq(h:Zp:=by
 go_region_law
  ((refine step_append_lies _ rfl _ _ _ rfl B 74 _ _ 6 _ underlying24 hi ch b6 ci rfl xab _ _ _ (by simp[Act.eval]) (kY aW.o 1) _ 1 1 _ (by simp[Act.eval]) rfl (Al _ _ _) (Dm v) xab (by unfold maxLen;omega) xaa yaf _ rfl ?_;intro g9 cap9 bn aB a0 bs cr;have bq:=jk a0 a9 aF.o.1 c1;have bZ:=far2 a0 a9 aF.o.1 bC;have ak:=jk a0 f aF.o.2 bh;have az:=jk a0 f aF.o.2 aH;have bF:=jk a0 f aF.o.2 aN;have cg:=jk a0 f aF.o.2 aM;have bE:=jk a0 f aF.o.2 aS;have cl:=jk a0 f aF.o.2 aC))
 all_goals
  have be:=bs.imp id (λe=>Nat.le_of_eq e.symm)
  have i1:=(dE 0 0 aa (.cells #[h0 v.op,h0 v.len,h0 v.a,h0 v.b,h0 v.c,.float .f64 v.k] 74)).trans (ed 0 0 1)
  have j:bn.ownsRow B 74 6 (hZ g9 (N+1) cap9) (N+1) (f9 (st.vs++[v])):=by rw[lL,oS];exact aB
  obtain⟨(a:M _),U⟩:=(S.o.keep i1).vals (eD a0) (by rw[yak,bc.o];rfl) j be
  have bv:M _:=(c.o.keep i1).trans U
  clear U be i1 aB j a0 bs cr bq bZ ak az bF cg bE cl bh aH aN aM aS aC bC c1 aW S c
  generalize bn.setCell ⟨P,1,_⟩ _=L at a bv⊢
  obtain⟨a1,bB,a2',bQ,a3,X,K,a6,ag,ad⟩:=a.o.gs bJ.o
  simp only at K ag ad
  subst K ag
  have bk:M _:=za bB bQ X ad ai.o
  have m:(st.vs++[v]).length=N+1:=by rw[yak,bc.o];rfl
  have l:M _:=λA=>jg A a1 a2' a3 st.ins.length bB (N+1) bQ st.outs.length X xaa
  rw[m]at bk a6
  clear ad
  have aP:=a.o.c0
  have aQ:=a.o.c1
  have aU:=a.o.c2
  cases a6
  cases I:jf (st.vs++[v])
  ·rw[I]at bk bu
   have b:M _:=bu.o.trans (h2 xac)
   have ao:M (∀A,Kept 0 0 _ A->A.cell? _=some _/\A.cell? _=some _/\A.cell? _=some _):=λA k=>⟨(a.o.keep k).c0,(a.o.keep k).c1,(a.o.keep k).c2⟩
   clear I bu
   go_wp2_with (first
    |(go_at_call 66;refine yai bk.o ?_;rintro e aj ⟨rfl,t⟩;obtain⟨bT,bg,a8⟩:=ao.o _ t)
    |(go_at_call 67;refine yai (l.o _) ?_;rintro e ae ⟨rfl,i⟩))
   go_ret
   rw[b.o]
   exact⟨⟨by simp,_,_,_,_,(a.o.keep t).keep i,(bv.o.keep t).keep i⟩,((a.o.keep t).keep i).c0⟩
  ·rw[I]at bk bu
   have b:M _:=bu.o.trans (h3 rfl)
   have bX:M (∀A,Kept 0 0 _ A->_):=λA k=>JG (a.o.keep k).c5 (a.o.keep k).c6 (a.o.keep k).fr 5 p (Mst P (.slice a1 st.ins.length bB) (hZ g9 (N+1) cap9) (.slice a3 st.outs.length X) u4) (.inl rfl)
   clear I bu
   go_wp2_with (first
    |(go_at_call 66;refine yai bk.o ?_;rintro e aj ⟨rfl,t⟩)
    |(go_at_call 32;refine yai (bX.o _ t) ?_;rintro e ae ⟨rfl,u,q⟩))
   go_ret
   rw[b.o]
   exact⟨⟨rfl,u.c5,u.c6,(bv.o.keep t).bad u.chg⟩,(q 0 xab xab).trans (a.o.keep t).c0⟩):Zp:=h
open B in
theorem M9{W B u1 ap u3 u4 am}(h:WS W P B u1 ap u3 u4 am st)(g:Gd st)(v)(aD:1<=v.len/\v.len<=1000)(o:v.k<18446744073709551616)(p:Nat):
  Calls prog 36 #[ge P,v.agg,h0 p] W (λe A=>TrO W P B u1 ap u3 u4 am (eg st v p) e A/\A.cell? ⟨P,0,none⟩=some u1):=by
 exact qap
