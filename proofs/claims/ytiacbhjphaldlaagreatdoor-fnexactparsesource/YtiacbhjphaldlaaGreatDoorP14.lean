import Derived.Test.YtiacbhjphaldlaaGreatDoorP13
import Derived.Test.YtiacbhjphaldlaaGreatDoorP11
namespace Go.Proofs.Z
open Tryz Go.RowKit Flt
set_option maxRecDepth 1000000
set_option maxHeartbeats 0
variable{G a}
section
attribute[local go_sem] dI dG dF fI
variable{A aA:World}{i1:Nat->Prop}{lo P ax aH S n x base m:Nat}{u1 u3 ag Y:Value}{act:List Bool}{sl:List Int}{vs0:List Vl}{R:Option Nat}{rs:List Value}
def gL(vs0:List Vl)(x:Nat):Nat->List Bool
 |0=>(List.replicate vs0.length false).set x true
 |m+1=>(gL vs0 x m).set (x+1+m) (ox (gL vs0 x m) (vs0.getD (x+1+m) h7))
theorem mR(vs0 x):∀m,(gL vs0 x m).length=vs0.length
 |0=>by simp[gL]
 |m+1=>by rw[gL,List.length_set,mR vs0 x m]
theorem BK.setA{W}(f:BK W ax P aH S n ag act sl)(d:Dj P ax aH S R)(o x):BK (W.setCell ⟨aH,o,none⟩ (.bool x)) ax P aH S n ag (act.set o x) sl:=by
 have k:=dV (S:=λb=>b=aH) W aH o (.bool x) rfl;have e:∀q,_:=λq=>k.cell (p:=⟨ax,q,none⟩) f.lt d.ka;exact⟨by simpa using f.lt,λq=>by rw[World.frozen?_setCell];exact f.fr q,it e f.c0,it e f.c1,it e f.c2,it e f.c3,by rw[List.length_set];exact f.al,f.ln,BR.set f.ac o x,IR.keepC f.sp k (λc=>d.as_ c.symm)⟩
theorem BK.setR{W}(f:BK W ax P aH S n ag act sl)(d:Dj P ax aH S R)(x):BK (W.setCell ⟨ax,3,none⟩ x) ax P aH S n x act sl:=by
 have k:=dV (S:=λb=>b=ax) W ax 3 x rfl;exact⟨by simpa using f.lt,λq=>by rw[World.frozen?_setCell];exact f.fr q,by rw[dR (.inr xaa)];exact f.c0,by rw[dR (.inr xaa)];exact f.c1,by rw[dR (.inr xaa)];exact f.c2,eR f.c3,f.al,f.ln,BR.keepC f.ac k (λc=>d.ka c.symm),IR.keepC f.sp k (λc=>d.ks c.symm)⟩
abbrev xe(xw xi xo xp:Nat):Value:=.func (.func 204) #[] #[.pointer (some ⟨xw,0,none⟩),.pointer (some ⟨xi,0,none⟩),.pointer (some ⟨xo,0,none⟩),.pointer (some ⟨xp,0,none⟩)]
def RulesL(W:World)(lo P K:Nat)(vs0:List Vl)(x:Nat)(rv:Value)(rs:List Value):Prop:=
 ∀j u,rs[j]? =some u->∃lo' hi' xw xi xo xp go a mp cp fv,lo<=lo'/\hi'<=W.heap.size/\(∀g,rv.ownBlock=some g->g<lo'\/hi'<=g)/\u=xe xw xi xo xp/\RuleIn W lo' hi' P K vs0 (x+1+j) xw xi xo xp go a mp cp fv
theorem RulesL.chg{W rv'}(f:RulesL W lo P ax vs0 x ag rs)(k:Chg i1 W A)(O:∀b,b<W.heap.size->i1 b->b<lo\/ag.ownBlock=some b)(ah:∀g,rv'.ownBlock=some g->ag.ownBlock=some g\/W.heap.size<=g):RulesL A lo P ax vs0 x rv' rs:=λj u bd=>by
 obtain⟨C,T,aI,af,G,b5,ap,a,mp,bZ,bC,z,J,al,bw,bL⟩:=f j u bd
 refine⟨_,_,_,_,_,_,_,a,_,_,_,z,yan J k.size,λg aG=>?_,bw,bL.mono ((Same.refl J).chg k (λb l h c=>?_)) yac yac⟩
 ·grind
 grind
theorem RulesL.add{W lo C T P ax vs0 x m ag rs aI af b5 ap mp bZ bC}(f:RulesL W lo P ax vs0 x ag rs)(aR:rs.length=m)(z:lo<=C)(J:T<=W.heap.size)(al:∀g,ag.ownBlock=some g->g<C\/T<=g)(bL:RuleIn W C T P ax vs0 (x+1+m) aI af G b5 ap a mp bZ bC):RulesL W lo P ax vs0 x ag (rs++[xe aI af G b5]):=λj u bd=>by
 by_cases aK:j<rs.length
 ·rw[yar aK]at bd
  exact f j u bd
 ·rw[yaq xaa]at bd
  have b:=(List.getElem?_eq_some_iff.1 bd).1
  simp at b
  obtain rfl:j=m:=xaa
  grind
theorem LI:(prog.info? 1).map (λi=>(i.zero,i.size,i.bytes))=some (some .nilFunc,1,8):=by kernel_rfl
structure NB(W w5:World)(lo P K A S n:Nat)(u1 u3 vv rv:Value)(vs0:List Vl)(x m base:Nat)(R:Option Nat)(rs:List Value):Prop where
 bs:BS W P u1 u3 vs0 (dK vs0) base R vv
 bk:BK W K P A S n rv (gL vs0 x m) (List.replicate n (-1))
 row:W.ownsRow lo 1 1 rv m rs
 rl:RulesL W lo P K vs0 x rv rs
 ch:Chg (λb=>b=K\/b=A\/lo<=b) w5 W
 sz:lo<=W.heap.size
theorem NB.keep{W}(f:NB W aA lo P ax aH S n u1 u3 Y ag vs0 x m base R rs)(k:Kept 0 0 W A):NB A aA lo P ax aH S n u1 u3 Y ag vs0 x m base R rs:=
 ⟨BS.keep f.bs k,f.bk.keep k,dW f.row k,f.rl.chg (k.chg (S:=λ_=>False)) (λ_ _ h=>h.elim) (λ_ h=>.inl h),Chg.andThen f.ch k.chg,yan f.sz k.size⟩
structure NbC(lo P K A S:Nat)(R:Option Nat):Prop where
 dj:Dj P K A S R
 p:P<lo
 k:K<lo
 a:A<lo
 s:S<lo
 r:∀b,R=some b->b<lo
theorem NB.mark{W}(f:NB W aA lo P ax aH S n u1 u3 Y ag vs0 x m base R rs)(c:NbC lo P ax aH S R)(b)(I:b=ox (gL vs0 x m) (vs0.getD (x+1+m) h7)):BS (W.setCell ⟨aH,x+1+m,none⟩ (.bool b)) P u1 u3 vs0 (dK vs0) base R Y/\BK (W.setCell ⟨aH,x+1+m,none⟩ (.bool b)) ax P aH S n ag (gL vs0 x (m+1)) (List.replicate n (-1))/\(W.setCell ⟨aH,x+1+m,none⟩ (.bool b)).ownsRow lo 1 1 ag m rs/\RulesL (W.setCell ⟨aH,x+1+m,none⟩ (.bool b)) lo P ax vs0 x ag rs/\Chg (λb=>b=ax\/b=aH\/lo<=b) aA (W.setCell ⟨aH,x+1+m,none⟩ (.bool b)):=by
 have k:=dV (S:=λb=>b=aH) W aH (x+1+m) (.bool b) rfl;refine⟨BS.setS f.bs c.dj.ap c.dj.ra,?_,dP f.row (λe=>ip ((dO f.row e).1) c.a),f.rl.chg k (λq _ h=>.inl (ih c.a)) (λ_ h=>.inl h),Chg.andThen f.ch (dV W aH _ _ (.inr (.inl rfl)))⟩;have:=f.bk.setA c.dj (x+1+m) b;rw[gL,<-I];exact this
def NbO(w:World)(P n:Nat)(u1 u3:Value)(vs0:List Vl)(x m base:Nat)(R:Option Nat)(vv:Value)(e:Ending)(w':World):Prop:=
 ∃lo K A S rv rs,e=.returned (.pointer (some ⟨K,0,none⟩))/\NB w' w' lo P K A S n u1 u3 vv rv vs0 x m base R rs/\NbC lo P K A S R/\(w.heap.size<=K/\w.heap.size<=A/\w.heap.size<=S/\w.heap.size<=lo)/\Kept 0 0 w w'
structure NB0(w wx:World)(P n K A S:Nat):Prop where
 bk:BK wx K P A S n (.slice none 0 0) (List.replicate n false) (List.replicate n (-1))
 kp:Kept 0 0 w wx
 lo_:w.heap.size<=K/\w.heap.size<=A/\w.heap.size<=S
 ne:K≠A/\K≠S/\A≠S
theorem As(w){ao}(P n){aH S}(k:Kept 0 0 w ao)(F:BR ao aH (List.replicate n false))(ai:IR ao S (List.replicate n (-1)))(z:w.heap.size<=aH)(J:w.heap.size<=S)(al:aH≠S):NB0 w (ao.alloc (.cells #[ge P,hZ aH n n,hZ S n n,.slice none 0 0] 269)) P n ao.heap.size aH S:=by
 have y:=dE 0 0 ao (.cells #[ge P,hZ aH n n,hZ S n n,.slice none 0 0] 269);have bo:=F.lt;have aZ:=ai.lt;refine⟨⟨by simp,λo=>World.frozen?_alloc_at _ _ _ o rfl,?_,?_,?_,?_,by simp,by simp,BR.keep F y yaa,IR.keep ai y yaa⟩,k.trans y,⟨k.size,z,J⟩,by omega,by omega,al⟩;all_goals simp_all
theorem BS.chg{W us c}(h:BS W P u1 u3 us c base R Y)(k:Chg i1 W A)(F:¬i1 P)(au:∀b,R=some b->¬i1 b):BS A P u1 u3 us c base R Y:=by
 have e:∀q,_:=λq=>k.cell (p:=⟨P,q,none⟩) h.lt F;exact⟨yaj h.lt k.size,λq=>by rw[k.frozen h.lt F];exact h.free q,it e h.c0,it e h.c1,it e h.c2,it e h.c3,fR h.own k (λg aG=>au g (iv h.row aG)),h.row,h.ne,yan h.sz k.size⟩
theorem NB.push{wc b7 bn aI af b5 ap mp bZ bC o g9 cap9}(h:BS wc P u1 u3 vs0 (dK vs0) base R Y/\BK wc ax P aH S n ag (gL vs0 x (m+1)) (List.replicate n (-1))/\wc.ownsRow lo 1 1 ag m rs/\RulesL wc lo P ax vs0 x ag rs/\Chg (λb=>b=ax\/b=aH\/lo<=b) aA wc/\lo<=wc.heap.size)(c:NbC lo P ax aH S R)(b3:Kept 0 0 wc b7)(p:RuleIn b7 wc.heap.size b7.heap.size P ax vs0 (x+1+m) aI af G b5 ap a mp bZ bC)(aW:bn.ownsRow lo 1 1 (hZ g9 (m+1) cap9) (m+1) (rs++[xe aI af G b5]))(aG:(b7.alloc o).grownBy bn ag.ownBlock)(F:ag.ownBlock=some g9\/g9=b7.heap.size+1):
  NB (bn.setCell ⟨ax,3,none⟩ (hZ g9 (m+1) cap9)) aA lo P ax aH S n u1 u3 Y (hZ g9 (m+1) cap9) vs0 x (m+1) base R (rs++[xe aI af G b5]):=by
 obtain⟨cM,a9,aw,L,bb,bY⟩:=h;have aL:=dE 0 0 b7 o;have ae:=b3.trans aL;have aK:=eD aG;have w:∀b,ag.ownBlock=some b->_:=λb I=>dO aw I;have s:=dV (S:=λb=>b=ax) bn ax 3 (hZ g9 (m+1) cap9) rfl;have bD:rs.length=m:=ih aw.1
 have l:=b3.size;have f:=(a9.keep ae).keepC aK (λe=>ip (w _ e) c.k) (λe=>ip (w _ e) c.a) (λe=>ip (w _ e) c.s);have g:=(BS.keep cM ae).chg aK (λe=>ip (w _ e) c.p) (λb I e=>ip (w _ e) (c.r b I));have i:=(L.chg (b3.chg (S:=λ_=>False)) (λ_ _ h=>h.elim) (λ_ h=>.inl h)).add bD bY yac (λb I=>.inl (w b I).2) p;have k:=i.chg (rv':=ag) (aL.chg (S:=λ_=>False)) (λ_ _ h=>h.elim) (λ_ h=>.inl h);have r:(b7.alloc o).heap.size=b7.heap.size+1:=by simp
 have j:RulesL bn lo P ax vs0 x (hZ g9 (m+1) cap9) (rs++[xe aI af G b5]):=k.chg aK (λb _ e=>.inr e) (λb I=>by
  have e:g9=b:=by simpa[Value.ownBlock] using I
  subst e
  obtain q|q:=F
  ·exact .inl q
  ·exact .inr xaa)
 have a0:=dO aW (k:=g9) rfl;refine⟨g.chg s (λe=>c.dj.kp e.symm) (λb I e=>by have:=c.dj.rk;rw[I,e]at this;exact this rfl),f.setR c.dj _,dP aW (λe=>by simp[Value.ownBlock]at e;have:=c.k;omega),j.chg s (λb _ e=>.inl (ih c.k)) (λ_ h=>.inl h),Chg.andThen bb (Chg.andThen ae.chg (Chg.andThen (aK.mono λb _ e=>.inr (.inr (w b e).1)) (s.mono λb _ e=>.inl e))),?_⟩;have:=aK.size;have:=s.size;omega
end
section
variable{vs0 us:List Vl}{L' aO i b o P ax aH n S base:Nat}{aq A:World}{C C':Int}{v u1 u3 ag Y:Value}{act:List Bool}{st:List Vl×List Int}{R' X R:Option Nat}
def SzU(L:Nat)(C:Int)(us:List Vl):Prop:=us.length<=L/\0<=dK us/\dK us<=C
theorem SzU.app(h:SzU aO C us)(h':SzU L' C' a):SzU (aO+L') (C+C') (us++a):=by
 obtain⟨a1,a2,a3⟩:=h;obtain⟨L,bi,U⟩:=h';refine⟨by grind,?_,?_⟩<;>(rw[iq];omega)
theorem SzU.mono(h:SzU aO C us)(z:aO<=L')(J:C<=C'):SzU L' C' us:=⟨yan h.1 z,h.2.1,Int.le_trans h.2.2 J⟩
theorem SzU.bz(h:SzU aO C us)(z:aO<=800000)(J:C<=800000000):Bz us:=⟨yan h.1 z,h.2.1,Int.le_trans h.2.2 J⟩
def LnB(vs0:List Vl):Prop:=∀j,0<=(vs0.getD j h7).len/\(vs0.getD j h7).len<=1000
theorem mw(h:∀j,j<vs0.length->1<=(vs0.getD j h7).len/\(vs0.getD j h7).len<=1000):LnB vs0:=λj=>by
 by_cases aK:j<vs0.length
 ·grind
 ·rw[yah,List.getElem?_eq_none xaa]
  show 0<=(0:Int)/\(0:Int)<=1000
  omega
theorem DK(I:LnB vs0){p}(h:SzU aO C st.1):SzU (aO+1) (C+1000) (jN vs0 o p st).1:=by
 unfold jN;split
 ·exact h.mono xaa xaa
 refine h.app ⟨by simp,?_,?_⟩<;>(simp only[dK];have:=I o;omega)
theorem LL(I:LnB vs0){k}(h:SzU aO C st.1):SzU (aO+4) (C+4000) (gkM vs0 act i k st).1:=by
 unfold gkM;split
 ·have aB:=rU i _ (laM _ i) k (st.2.getD i 0) st.1.length (I i).1 (I i).2 (I _).1 (I _).2;have:=DK I (o:=(fld (vs0.getD i h7) k).toNat) (p:=(iR (i:Int) (vs0.getD i h7) (laM vs0 i) k (st.2.getD i 0) st.1.length).2) (st:=(st.1++(iR (i:Int) (vs0.getD i h7) (laM vs0 i) k (st.2.getD i 0) st.1.length).1,st.2)) (SzU.app (L':=3) (C':=3000) h ⟨aB.1,aB.2.1,aB.2.2⟩);grind
 exact h.mono xaa xaa
theorem qW{vs0}(I:LnB vs0){act i aO C st}(h:SzU aO C st.1):∀k:Nat,SzU (aO+4*k) (C+4000*(k:Int)) (iX vs0 act i st k).1
 |0=>h.mono xaa xaa
 |k+1=>(LL I (qW I h k)).mono xaa xaa
theorem DL(I:LnB vs0)(h:SzU aO C st.1):SzU (aO+12) (C+12000) (giM vs0 act i st).1:=by
 have:=kN (vs0.getD i h7).op;unfold giM;split
 ·exact h.mono xaa xaa
 exact(qW I h _).mono xaa xaa
theorem Au(h:Pre vs0 st.1):Pre vs0 (giM vs0 act i st).1:=by
 grind[giM,oY]
theorem Av:(giM vs0 act i st).2.length=st.2.length:=by
 grind[giM,oZ]
def lN(vs0:List Vl)(act:List Bool)(x:Nat)(st:List Vl×List Int)(js:List Nat):List Vl×List Int:=js.foldl (λst j=>giM vs0 act (x+1+j) st) st
theorem rW(vs0 act x st js j):lN vs0 act x st (js++[j])=giM vs0 act (x+1+j) (lN vs0 act x st js):=by simp[lN]
theorem pR{vs0}(I:LnB vs0){act x}:∀(js:List Nat) (aO:Nat) (C:Int) (st:List Vl×List Int),SzU aO C st.1->Pre vs0 st.1->SzU (aO+12*js.length) (C+12000*(js.length:Int)) (lN vs0 act x st js).1/\Pre vs0 (lN vs0 act x st js).1/\(lN vs0 act x st js).2.length=st.2.length
 |[],aO,C,st,h,aB=>⟨h.mono xac xac,aB,rfl⟩
 |j::js,aO,C,st,h,aB=>by
  obtain⟨a1,a2,a3⟩:=pR I js (aO+12) (C+12000) (giM vs0 act (x+1+j) st) (DL I h) (Au aB)
  have e:lN vs0 act x st (j::js)=lN vs0 act x (giM vs0 act (x+1+j) st) js:=rfl
  rw[e]
  refine⟨a1.mono ?_ ?_,a2,by rw[a3,Av]⟩<;>(simp only[yap];omega)
def qA(m:Nat):List Nat:=(List.range m).map (λi=>m-1-i)
def oc(vs0:List Vl)(s:Nat):List Vl×List Int:=(vs0++[⟨1,1,0,0,0,4607182418800017408⟩],(List.replicate vs0.length (-1)).set s (vs0.length:Nat))
def BI(vs0:List Vl)(x:Nat)(st:List Vl×List Int):List Vl×Int:=
 if st.2.getD x 0=-1 then (st.1++[dL 1 (vs0.getD x h7).len 0 0 0],(st.1.length:Nat))else (st.1,st.2.getD x 0)
def grM(vs0:List Vl)(s x:Nat):List Vl×Int:=
 if (gL vs0 x (s-x)).getD s false=true then BI vs0 x (lN vs0 (gL vs0 x (s-x)) x (oc vs0 s) (qA (s-x)))
 else (vs0++[dL 1 (vs0.getD x h7).len 0 0 0],(vs0.length:Nat))
theorem jI{W:World}{e size:Nat}(h:W.ownsRow base e size v n G){g}(aG:v.ownBlock=some g){o}(av:W.heap[g]? =some o):o.isCells=true:=by
 obtain⟨rfl,_⟩|⟨aY,cap,bp,rfl,_,aj,_⟩:=h.2
 ·simp[Value.ownBlock]at aG
 simp[Value.ownBlock]at aG;subst aG;rw[aj]at av;cases av;rfl
theorem jS{W:World}(h:W.cell? ⟨b,o,none⟩=some v){l}(av:W.heap[b]? =some l):l.isCells=true:=by
 cases l<;>first|rfl|(exfalso;simp[World.cell?,av]at h)
theorem mx{W:World}{N}(ah:∀r,X=some r->N<=r/\∃o:Obj,W.heap[r]? =some o/\o.isCells=false)(aj:∀o:Obj,W.heap[b]? =some o->o.isCells=true):¬X=some b:=λe=>by
 grind
theorem StQ.own{i1 W}(s:StQ i1 R aq R' W)(g:W.grownBy A X)(ah:∀r,X=some r->aq.heap.size<=r):StQ i1 R aq R' A:=
 ⟨⟨g.os.trans s.chg.os,g.tape.trans s.chg.tape,g.output.trans s.chg.output,yan s.chg.size g.size,λk H V=>by
   rw[g.block k (yaj H s.chg.size) (λe=>by grind)]
   exact s.chg.block k H V⟩,s.row⟩
theorem RSt.own{W0 W lo hi bi}(f:RSt W0 aq W lo hi P ax aH S n u1 u3 ag act base bi R Y st)(j:W0.heap.size<=aq.heap.size)(g:W.grownBy A X)(ah:∀r,X=some r->aq.heap.size<=r/\∃o:Obj,W.heap[r]? =some o/\o.isCells=false):RSt W0 aq A lo hi P ax aH S n u1 u3 ag act base bi R Y st:=by
 have k:=eD g;refine⟨f.same.chg k (λb z J c=>?_),f.inr,BS.chg f.bs k (mx ah (λo av=>jS f.bs.c0 av)) (λb I=>mx ah (λo av=>jI f.bs.own (it f.bs.row I) av)),f.bk.keepC k (mx ah (λo av=>jS f.bk.c0 av)) (mx ah (λo av=>?_)) (mx ah (λo av=>?_)),f.dj,f.stq.own g (λr e=>(ah r e).1)⟩
 ·have:=(ah b c).1;have:=f.same.le;omega
 ·have h:=f.bk.ac;unfold BR at h;rw[h]at av;cases av;rfl
 have h:=f.bk.sp;unfold IR at h;rw[h]at av;cases av;rfl
theorem StQ.others{sl c W}(s:StQ (λb=>b=P\/b=S) R W R' A)(h:BS W P u1 u3 us c base R Y)(b:BK W ax P aH S n ag act sl):KeepsOthers W A:=
 ⟨s.chg.size,λk o H av=>by
  rw[s.chg.block k (Array.getElem?_eq_some_iff.1 H).1 ?_]
  ·exact H
  ·rintro ((rfl|rfl)|e)
   ·rw[jS h.c0 H]at av;cases av
   ·have I:=b.sp
    unfold IR at I
    rw[I]at H
    cases H
    cases av
   ·rw[jI h.own (it h.row e) H]at av;cases av⟩
