import Derived.Test.YtnlffngpnoodkaaGreatP50
namespace Go.Proofs.YtnlffngpnoodkaaGreat
set_option maxRecDepth 1000000
set_option maxHeartbeats 0
open Go.RowKit Flt
attribute [local go_sem] ic ib ia
variable {w W':World} {ys ins outs:List Int} {T:List Int×List Vl×List Int×Nat} {s F B Q j g1 lo x c1 hi g2 n c2 g3 n1 n2 c3 n3:Nat} {xss:List (List Nat)} {a a1 a2 a3:Option Addr} {vs2 us:List Vl} {J:Int}
structure GBx (W:World)(B Q g1 c1 g2 c2 g3 c3 n1 n2 n3:Nat)(ins:List Int)(us:List Vl)(outs:List Int):Prop where
 rb:RB W Q (.slice (some ⟨g1,0,none⟩) n1 c1) (.slice (some ⟨g2,0,none⟩) n2 c2) (.slice (some ⟨g3,0,none⟩) n3 c3)
 dg:DG W B (.slice (some ⟨g1,0,none⟩) n1 c1) (.slice (some ⟨g2,0,none⟩) n2 c2) (.slice (some ⟨g3,0,none⟩) n3 c3) ins us outs
 e1:ins.length=n1
 e2:us.length=n2
 e3:outs.length=n3
theorem GBx.keep {W:World}(f:GBx W B Q g1 c1 g2 c2 g3 c3 n1 n2 n3 ins us outs)(k:Kept 0 0 W W'):GBx W' B Q g1 c1 g2 c2 g3 c3 n1 n2 n3 ins us outs:=⟨f.rb.keep k,f.dg.keep k,f.e1,f.e2,f.e3⟩
theorem GBx.gn {W:World}(f:GBx W B Q g1 c1 g2 c2 g3 c3 n1 n2 n3 ins us outs):GN W g1 g2 g3 n2 ins us outs:=f.dg.gn f.e2
theorem GBx.gs {W:World}(f:GBx W B Q g1 c1 g2 c2 g3 c3 n1 n2 n3 ins us outs):GS W (some ⟨g1,0,none⟩) n1 (some ⟨g2,0,none⟩) n2 (some ⟨g3,0,none⟩) n3 ins us outs:=f.dg.gs f.e1 f.e2 f.e3
theorem GBx.box (f:DG w B (.slice (some ⟨g1,0,none⟩) n1 c1) (.slice (some ⟨g2,0,none⟩) n2 c2) (.slice (some ⟨g3,0,none⟩) n3 c3) ins us outs)(e1:ins.length=n1)(e2:us.length=n2)(e3:outs.length=n3):GBx (w.alloc (iv (some ⟨g1,0,none⟩) n1 c1 (some ⟨g2,0,none⟩) n2 c2 (some ⟨g3,0,none⟩) n3 c3)) B w.heap.size g1 c1 g2 c2 g3 c3 n1 n2 n3 ins us outs:=by
 have hb:=kj (S:=λ_=>False) w _ #[.slice (some ⟨g1,0,none⟩) n1 c1,.slice (some ⟨g2,0,none⟩) n2 c2,.slice (some ⟨g3,0,none⟩) n3 c3] 26 (Kept.refl 0 0 _).chg (λc=>c)
 exact⟨⟨hb.2.2,hb.1 0,hb.1 1,hb.1 2,hb.2.1 0,hb.2.1 1,hb.2.1 2⟩,f.keep (hU 0 0 w _),e1,e2,e3⟩
structure GH (W:World)(lo hi:Nat)(a1:Option Addr)(n1:Nat)(a2:Option Addr)(n2:Nat)(ins:List Int)(us:List Vl):Prop where
 i:IS W lo hi a1 n1 ins
 v:VS W lo hi a2 n2 us
theorem GH.keep {W:World}{l h:Nat}(f:GH W lo hi a1 n1 a2 n2 ins us)(k:Kept l h W W')(hd:hi<=l\/h<=lo\/h<=l):GH W' lo hi a1 n1 a2 n2 ins us:=
 ⟨f.i.keep k hd,f.v.keep k hd⟩
theorem GH.of {vs:List Vl}(f:OG w g1 g2 g3 a1 n1 a2 n2 a3 n3 ins vs outs)(h1:lo<=g1)(h2:lo<=g2)(e1:ins.length=n1)(e2:vs.length=n2)(hk:∀v∈vs,v.k<18446744073709551616):GH w lo w.heap.size a1 n1 a2 n2 ins vs:=by
 refine⟨⟨e1,?_⟩,⟨e2,hk,?_⟩⟩
 ·rcases f.i with h|⟨e,q⟩
  ·exact .inl h
  ·exact .inr ⟨g1,0,e,h1,q.lt,q.lt,λk hk=>by rw[Nat.zero_add];exact q.at_ k hk⟩
 ·rcases f.v with h|⟨e,q⟩
  ·exact .inl h
  ·exact .inr ⟨g2,0,e,h2,q.lt,q.lt,λk hk=>by rw[Nat.zero_add];exact q.at_ k hk⟩
theorem TkG.at_ {vs:List Vl}(h:TkG ys T s x vs):((duV ys T.1 vs x).getD vs.length Vl.zero).len=((duV ys T.1 vs x).getD x Vl.zero).len/\((duV ys T.1 vs x).getD s Vl.zero).len=1/\∀k,whO ((duV ys T.1 vs x).getD k Vl.zero).op:=by
 refine⟨?_,(nC ys T.1 x h.dc.hs).trans h.dc.ls,λk=>(h.dc.wh.get k).1⟩
 rw[nu]
 exact(nC ys T.1 x h.dc.hx).symm
theorem FB {vs:List Vl}{i:Nat}(ho:okV ins vs i=true)(h:(vd vs i).op=11\/(vd vs i).op=12):0<=(vd vs i).c:=by
 unfold okV at ho
 rw[Bool.and_eq_true] at ho
 have h3:=ho.2
 rw[if_neg (λe=>by have:(vd vs i).op=0:=e;omega),Bool.and_eq_true] at h3
 have c:cnt (vd vs i).op=1:=by rcases h with e|e<;>(rw[e];decide)
 unfold iV at h3
 rw[show cnt (vs.getD i Vl.zero).op=1 from c] at h3
 simp only[List.take_succ_cons,List.take_zero,List.map_cons,List.map_nil] at h3
 have h4:=h3.2
 rcases h with e|e
 ·rw[show(vs.getD i Vl.zero).op=11 from e] at h4
  simp[im,iL] at h4
  exact h4.2.1
 ·rw[show(vs.getD i Vl.zero).op=12 from e] at h4
  simp[im,iL] at h4
  exact h4.2.1
theorem BV (h:j<=s):(duO s).getD j 0=(j:Int):=by
 unfold duO
 simp[List.getD_eq_getElem?_getD,List.getElem?_range (show j<s+1 by omega)]
theorem TkG.vals {vs:List Vl}(h:TkG ys T s x vs)(e:n2=vs.length+1){zss:List (List Nat)}(hz:∀j,j<s+1->same (zss.getD j []) ((io (inM ys (iP T.1 vs x)) (duV ys T.1 vs x) n2).getD ((duO s).getD j 0).toNat [])):
  (∀j,j<=s->same (zss.getD j []) ((io (inM ys (iP T.1 vs x)) (duV ys T.1 vs x) (duV ys T.1 vs x).length).getD j []))/\∀i,i<s+1->(zss.getD i []).length=ln (duV ys T.1 vs x) i:=by
 have hl:(duV ys T.1 vs x).length=vs.length+1:=jJ _ _ _ _
 have hs:=h.dc.hs
 have h1:∀j,j<=s->same (zss.getD j []) ((io (inM ys (iP T.1 vs x)) (duV ys T.1 vs x) (duV ys T.1 vs x).length).getD j []):=λj hj=>by
  have:=hz j (by omega)
  rw[BV hj,Int.toNat_natCast,e,<-hl] at this
  exact this
 refine⟨h1,λi hi=>?_⟩
 have h2:=jY (h1 i (by omega))
 have h3:=jU h.dc.inb _ (mn h.dc.ok).2.2 i (by omega)
 have e:(vd (duV ys T.1 vs x) i).len=((duV ys T.1 vs x).getD i Vl.zero).len:=rfl
 show _=(vd (duV ys T.1 vs x) i).len.toNat
 omega
theorem tE (w:World)(x y z:Value):RB (w.alloc (.cells #[x,y,z] 26)) w.heap.size x y z:=by
 have hb:=kj (S:=λ_=>False) w _ #[x,y,z] 26 (Kept.refl 0 0 _).chg (λc=>c)
 exact⟨hb.2.2,hb.1 0,hb.1 1,hb.1 2,hb.2.1 0,hb.2.1 1,hb.2.1 2⟩
theorem zN {vs:List Vl}(h:jR vs=false):vs.length<=2000:=by
 unfold jR at h
 have:=of_decide_eq_false h
 omega
theorem SS.at0 (f:SS w a n xss)(hj:j<n):∃g off,a=some ⟨g,off,none⟩/\g<w.heap.size/\∃b c,w.cell? ⟨g,off+j,none⟩=some (.slice b (xss.getD j []).length c)/\FS w 0 w.heap.size b (xss.getD j []).length (xss.getD j []):=by
 rcases f.at_ with h0|⟨g,off,e,h1,h2⟩
 ·omega
 ·obtain⟨b,c,k1,_,k3⟩:=h2 j hj
  exact⟨g,off,e,h1,b,c,k1,k3⟩
def rT (n:Nat):Code->Option Code
 |.seq a b=>if rP b=n then some b else match rT n b with
  |some c=>some c
  |none=>rT n a
 |.block _ c=>rT n c
 |.scope c=>rT n c
 |_=>none
noncomputable def Ez:Code:=(Tryz.f3.body.bind (rT 21)).getD .skip
theorem TkG.two {vs:List Vl}(h:TkG ys T s x vs)(h2:TkG ys T s x vs2):vs2.length=vs.length/\iP T.1 vs2 x=iP T.1 vs x/\(duV ys T.1 vs2 x).map nk=(duV ys T.1 vs x).map nk:=by
 have hSV:vs2.map sv=vs.map sv:=by rw[h2.sv_,h.sv_]
 refine⟨by simpa using congrArg List.length hSV,?_,Fq ys T.1 x hSV⟩
 show T.1++[_]=T.1++[_]
 rw[oj (nw hSV x)]
theorem TkG.jv {vs fs:List Vl}(h:TkG ys T s x vs)(h2:TkG ys T s x vs2)(hf:jf (duV ys T.1 vs x) s x vs.length=(fs,J))(hl:jR fs=false):
  ∃fs2,jf (duV ys T.1 vs2 x) s x vs.length=(fs2,J)/\fs2.map nk=fs.map nk/\jR fs2=false:=by
 have hn:=BE (h.two h2).2.2 s x vs.length
 rw[hf] at hn
 exact⟨_,Prod.ext rfl hn.2,hn.1,by rw[wk hn.1];exact hl⟩
theorem TkG.gd {vs fs:List Vl}(h:TkG ys T s x vs)(h2:TkG ys T s x vs2)(hf:grM (duV ys T.1 vs x) s x=(fs,J))(hl:jR fs=false):
  ∃fs2,grM (duV ys T.1 vs2 x) s x=(fs2,J)/\fs2.map nk=fs.map nk/\jR fs2=false:=by
 have hn:=Ej (h.two h2).2.2 s x
 rw[hf] at hn
 exact⟨_,Prod.ext rfl hn.2,hn.1,by rw[wk hn.1];exact hl⟩
theorem Cg {fs fs2:List Vl}(hnk:fs2.map nk=fs.map nk)(h:SmO m12 ins fs xss fs.length J.toNat)(h0:0<=J):
  EvS ins fs2 [J] xss fs2.length 1 1 0 (λj=>(io xss fs2 fs2.length).getD ([J].getD j 0).toNat [])/\(io xss fs2 fs2.length).getD ([J].getD 0 0).toNat []=(io xss fs fs.length).getD J.toNat []:=by
 have hl:fs2.length=fs.length:=by simpa using congrArg List.length hnk
 refine⟨.inr (.inr ⟨?_,h.2.1,rfl,rfl,λ_=>rfl⟩),?_⟩
 ·rw[qK (xt hnk),show J=((J.toNat:Nat):Int) by omega]
  exact h.1
 ·rw[hl,rR xss hnk]
  rfl
abbrev stW (W:World)(F B:Nat)(x y:Int):World:=(((W.setCell ⟨F,2,none⟩ (.slice (some ⟨W.heap.size,0,none⟩) 1 1)).setCell ⟨B,2,none⟩ (.slice (some ⟨W.heap.size+1,0,none⟩) 1 1)).alloc (.cells #[.int .i64 x] 3)).alloc (.cells #[.int .i64 y] 3)
structure StK (W W':World)(F B:Nat):Prop where
 blk:∀b,b<W.heap.size->b≠F->b≠B->∀o,W'.cell? ⟨b,o,none⟩=W.cell? ⟨b,o,none⟩
 sz:W.heap.size<=W'.heap.size
 kp:∀w0,Kept 0 0 w0 W->w0.heap.size<=F->w0.heap.size<=B->Kept 0 0 w0 W'
theorem FP (W:World)(F B:Nat)(x y:Int):StK W (stW W F B x y) F B:=by
 have k1:=it (lo:=F) (hi:=F+1) W ⟨F,2,none⟩ (.slice (some ⟨W.heap.size,0,none⟩) 1 1) (.inl ⟨Nat.le_refl _,Nat.lt_succ_self _⟩)
 have k2:=it (lo:=B) (hi:=B+1) (W.setCell ⟨F,2,none⟩ (.slice (some ⟨W.heap.size,0,none⟩) 1 1)) ⟨B,2,none⟩ (.slice (some ⟨W.heap.size+1,0,none⟩) 1 1) (.inl ⟨Nat.le_refl _,Nat.lt_succ_self _⟩)
 have k3:=(hU 0 0 ((W.setCell ⟨F,2,none⟩ (.slice (some ⟨W.heap.size,0,none⟩) 1 1)).setCell ⟨B,2,none⟩ (.slice (some ⟨W.heap.size+1,0,none⟩) 1 1)) (.cells #[.int .i64 x] 3)).trans (hU 0 0 _ (.cells #[.int .i64 y] 3))
 refine⟨λb hb h1 h2 o=>?_,Nat.le_trans k1.size (Nat.le_trans k2.size k3.size),λw0 k h1 h2=>((k.new k1 h1).new k2 h2).trans k3⟩
 have s1:=k1.size
 have s2:=k2.size
 rw[k3.cell (p:=⟨b,o,none⟩) (by show b<_;omega) (by omega),k2.cell (p:=⟨b,o,none⟩) (by show b<_;omega) (by show ¬(B<=b/\b<B+1);omega),k1.cell (p:=⟨b,o,none⟩) (by show b<_;omega) (by show ¬(F<=b/\b<F+1);omega)]
theorem FC {W:World}{u1 u2 u3 v1 v2 v3:Value}(hF:RB W F u1 u2 u3)(hB:RB W B v1 v2 v3)(hn:F<B)(x y:Int):RB (stW W F B x y) F u1 u2 (.slice (some ⟨W.heap.size,0,none⟩) 1 1)/\RB (stW W F B x y) B v1 v2 (.slice (some ⟨W.heap.size+1,0,none⟩) 1 1):=by
 have k1:=it (lo:=F) (hi:=F+1) W ⟨F,2,none⟩ (.slice (some ⟨W.heap.size,0,none⟩) 1 1) (.inl ⟨Nat.le_refl _,Nat.lt_succ_self _⟩)
 have k2:=it (lo:=B) (hi:=B+1) (W.setCell ⟨F,2,none⟩ (.slice (some ⟨W.heap.size,0,none⟩) 1 1)) ⟨B,2,none⟩ (.slice (some ⟨W.heap.size+1,0,none⟩) 1 1) (.inl ⟨Nat.le_refl _,Nat.lt_succ_self _⟩)
 have k3:=(hU 0 0 ((W.setCell ⟨F,2,none⟩ (.slice (some ⟨W.heap.size,0,none⟩) 1 1)).setCell ⟨B,2,none⟩ (.slice (some ⟨W.heap.size+1,0,none⟩) 1 1)) (.cells #[.int .i64 x] 3)).trans (hU 0 0 _ (.cells #[.int .i64 y] 3))
 exact⟨((lp hF _).2.kept k2 (.inl hn)).keep k3,(lp (hB.kept k1 (.inr hn)) _).2.keep k3⟩
theorem FD (W:World)(F B:Nat)(x y:Int):IS (stW W F B x y) 0 (stW W F B x y).heap.size (some ⟨W.heap.size,0,none⟩) 1 [x]/\IS (stW W F B x y) 0 (stW W F B x y).heap.size (some ⟨W.heap.size+1,0,none⟩) 1 [y]:=by
 refine⟨⟨rfl,.inr ⟨W.heap.size,0,rfl,Nat.zero_le _,by simp;omega,by simp;omega,λk hk=>?_⟩⟩,⟨rfl,.inr ⟨W.heap.size+1,0,rfl,Nat.zero_le _,by simp,by simp,λk hk=>?_⟩⟩⟩
 all_goals
  have:k=0:=by omega
  subst this
  first|(simp;done)|(go_simp;done)
theorem StK.is {W:World}(k:StK W W' F B){xs:List Int}(f:IS W lo hi a n xs)(hb:∀b,lo<=b->b<hi->b≠F/\b≠B):IS W' lo hi a n xs:=
 ⟨f.len,by
  rcases f.at_ with h0|⟨g,off,e,h1,h2,h3,h4⟩
  ·exact .inl h0
  ·exact .inr ⟨g,off,e,h1,h2,Nat.lt_of_lt_of_le h3 k.sz,λj hj=>by rw[k.blk g h3 (hb g h1 h2).1 (hb g h1 h2).2];exact h4 j hj⟩⟩
theorem StK.fs {W:World}(k:StK W W' F B){xs:List Nat}(f:FS W lo hi a n xs)(hb:∀b,lo<=b->b<hi->b≠F/\b≠B):FS W' lo hi a n xs:=
 ⟨f.len,f.lt,by
  rcases f.at_ with h0|⟨g,off,e,h1,h2,h3,h4⟩
  ·exact .inl h0
  ·exact .inr ⟨g,off,e,h1,h2,Nat.lt_of_lt_of_le h3 k.sz,λj hj=>by rw[k.blk g h3 (hb g h1 h2).1 (hb g h1 h2).2];exact h4 j hj⟩⟩
theorem StK.vs {W:World}(k:StK W W' F B)(f:VS W lo hi a n us)(hb:∀b,lo<=b->b<hi->b≠F/\b≠B):VS W' lo hi a n us:=
 ⟨f.len,f.lt,by
  rcases f.at_ with h0|⟨g,off,e,h1,h2,h3,h4⟩
  ·exact .inl h0
  ·refine .inr ⟨g,off,e,h1,h2,Nat.lt_of_lt_of_le h3 k.sz,λj hj=>?_⟩
   obtain⟨d0,d1,d2,d3,d4,d5⟩:=h4 j hj
   have key:=k.blk g h3 (hb g h1 h2).1 (hb g h1 h2).2
   exact⟨by rw[key];exact d0,by rw[key];exact d1,by rw[key];exact d2,by rw[key];exact d3,by rw[key];exact d4,by rw[key];exact d5⟩⟩
theorem StK.gh {W:World}(k:StK W W' F B)(f:GH W lo hi a1 n1 a2 n2 ins us)(hb:∀b,lo<=b->b<hi->b≠F/\b≠B):GH W' lo hi a1 n1 a2 n2 ins us:=⟨k.is f.i hb,k.vs f.v hb⟩
theorem GH.gs {W:World}(f:GH W lo hi a1 n1 a2 n2 ins us)(h:hi<=W.heap.size)(o:IS W 0 W.heap.size a3 n3 outs):GS W a1 n1 a2 n2 a3 n3 ins us outs:=⟨f.i.mono (Nat.zero_le _) h,f.v.mono (Nat.zero_le _) h,o⟩
end Go.Proofs.YtnlffngpnoodkaaGreat
