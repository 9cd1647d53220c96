import Derived.Test.YtaheilbiakhlgaaGreatP36
namespace Go.Proofs.Z
variable{Zp:Prop}
open Tryz Go.RowKit Flt
set_option maxRecDepth 1000000
set_option maxHeartbeats 0
section
variable{ins tq outs:List Int}{xss A r I:List (List Nat)}{us vs:List Vl}{j i k:Nat}{u v:Vl}
theorem NU{op}(h:op≠11)(h':op≠12)(len C C' K Q S aq):jD op len C K Q S aq=jD op len C' K Q S aq:=by
 unfold jD
 have e:fD op C K Q S aq=fD op C' K Q S aq:=by
  funext k;unfold fD;simp[h,h']
 have a0:fp op len C Q.length S.length aq.length=fp op len C' Q.length S.length aq.length:=by unfold fp eR;simp[h,h']
 rw[e,a0]
theorem vx(af:u.op=v.op)(a0:u.len=v.len)(J:u.k=v.k)(aj:cnt v.op<1->gH (xss.getD u.a.toNat []) (r.getD v.a.toNat []))(bW:cnt v.op<3->u.c=v.c)(f:jk A)(B:jk I)
  (F:0<cnt v.op->gH (A.getD u.a.toNat []) (I.getD v.a.toNat [])) (hb:1<cnt v.op->gH (A.getD u.b.toNat []) (I.getD v.b.toNat [])) (ak:2<cnt v.op->gH (A.getD u.c.toNat []) (I.getD v.c.toNat [])):gH (one xss u A) (one r v I):=by
 unfold one;rw[af,a0,J];by_cases ai:v.op=0
 ·rw[hI ai,hI ai];exact aj (by rw[ai];decide)
 rw[hG ai,hG ai]
 have au:∀(q:Prop) [Decidable q] (x y:List _),(q->gH x y)->gH (if q then x else[]) (if q then y else[]):=λq _ x y h=>by
  by_cases c:q
  ·rw[hI c,hI c];exact h c
  ·rw[hG c,hG c];rfl
 have e:jD v.op v.len u.c v.k=jD v.op v.len v.c v.k:=by
  by_cases c:cnt v.op<3
  ·rw[bW c]
  funext a b d;exact NU (λh=>c (by rw[h];decide)) (λh=>c (by rw[h];decide)) _ _ _ _ _ _ _
 rw[e];exact pP (au _ _ _ F) (au _ _ _ hb) (au _ _ _ ak) (pQ (f _)) (pQ (B _))
theorem B6(f:jk A)(B:jk I)(h:∀o∈eY v,gH (A.getD (tq.getD o.toNat 0).toNat []) (I.getD o.toNat [])):gH (one xss (rnm tq v) A) (one xss v I):=by
 refine vx rfl rfl rfl (λc=>?_) (λc=>?_) f B (λc=>?_) (λc=>?_) (λc=>?_)
 ·unfold rnm;simp only;rw[hG xaa];rfl
 ·unfold rnm;simp only;rw[hG xaa]
 ·have:=h _ (iP xaa);unfold rnm;simp only;rw[hI c];exact this
 ·have:=h _ (kz xaa);unfold rnm;simp only;rw[hI c];exact this
 have:=h _ (lq xaa);unfold rnm;simp only;rw[hI c];exact this
theorem qO{xss us vs}:∀i,(∀j,j<i->us.getD j hK=vs.getD j hK)->fw xss us i=fw xss vs i
 |0,_=>rfl
 |i+1,h=>by rw[fw,fw,qO i (λj hj=>h j xaa),h i xaa]
theorem zw(xss us u):fw xss (us++[u]) (us.length+1)=fw xss us us.length++[one xss u (fw xss us us.length)]:=by
 rw[fw,qO _ (λj hj=>iU _ u hj),iM]
theorem rA(x)(h:j<A.length):(A++[x]).getD j []=A.getD j []:=by
 exact xjc
theorem tR(x)(h:j=A.length):(A++[x]).getD j []=x:=by
 rw[h,yah,yar yad,Nat.sub_self];rfl
theorem zx{op len C K Q S aq}(h:k<(jD op len C K Q S aq).length):(jD op len C K Q S aq).getD k 0=fD op C K Q S aq k:=by
 unfold jD at h⊢;split at h
 ·rename_i c;rw[hI c];have h':k<len.toNat:=by simpa using h
  simp[List.getD_eq_getElem?_getD,h']
 cases h
theorem DV(op len C K e Q S aq):(jD op len C K Q S aq).length=(jD op len C e Q S aq).length:=by
 unfold jD;by_cases c:fp op len C Q.length S.length aq.length=true
 ·rw[hI c,hI c];simp
 rw[hG c,hG c]
theorem Kx(hj:j<i)(h:∀o∈eY (us.getD j hK),0<=o/\o<j):(fw xss us i).getD j []=one xss (us.getD j hK) (fw xss us i):=by
 have e:∀q,q<=i->∀m,m<q->_:=λq ao m aw=>by
  have:=vg xss us (i:=q) (j:=m) (i-q) aw
  rwa [show q+(i-q)=i by omega]at this
 rw[e _ hj j yae,kJ];generalize us.getD j _=v at h;have au:∀o∈eY v,(fw _ _ j).getD o.toNat _=(fw _ _ i).getD _ _:=λo ax=>(e j xaa _ (hO (h o ax))).symm;have bE:0<cnt v.op->_:=λc=>au _ (iP xaa);have cd:1<cnt v.op->_:=λc=>au _ (kz xaa);have y:2<cnt v.op->_:=λc=>au _ (lq xaa);unfold one;congr 2
 ·by_cases c:0<cnt v.op
  ·rw[hI c,hI c,bE c]
  rw[hG c,hG c]
 ·by_cases c:1<cnt v.op
  ·rw[hI c,hI c,cd c]
  rw[hG c,hG c]
 by_cases c:2<cnt v.op
 ·rw[hI c,hI c,y c]
 rw[hG c,hG c]
theorem vy(h:fK u v=true):gH (one xss u A) (one xss v A):=by
 unfold fK at h;simp only[Bool.and_eq_true,beq_iff_eq,Bool.or_eq_true,bne_iff_ne]at h;obtain⟨⟨aK,aP,b3,ap,aC⟩,m⟩:=h;unfold one;rw[aK,aP,b3,ap,aC];rw[aK]at m;split
 ·rfl
 rcases m with m|m
 ·rw[GW m _ _ _ v.k];rfl
 by_cases c:v.op=1
 ·rw[c];have ah:=DV 1 v.len v.c u.k v.k (if 0<cnt 1 then A.getD v.a.toNat [] else[]) (if 1<cnt 1 then A.getD v.b.toNat [] else[]) (if 2<cnt 1 then A.getD v.c.toNat [] else[]);refine vT ah λk O=>?_;rw[zx O,zx (hS ah O)];exact m
 rw[GW c _ _ _ v.k];rfl
theorem DW(h:∀j,j<i->okV ins us j=true):(List.range i).all (okV ins us)=true:=List.all_eq_true.2 λj hj=>h j (List.mem_range.1 hj)
theorem G7{ins F xss vs}(ap:jk xss)(O:Kb vs)(aM:∀j,j<vs.length->okV ins vs j=true)(bx:∀i,i<vs.length->F.getD i false=true->∀o∈eY (vs.getD i hK),F.getD o.toNat false=true):∀i,i<=vs.length->∀j,j<i->F.getD j false=true->
  gH ((fw xss (f9 F vs i).1 (f9 F vs i).1.length).getD ((f9 F vs i).2.getD j 0).toNat []) ((fw xss vs i).getD j [])
 |0,_,j,hj,_=>by omega
 |i+1,hi,j,hj,a9=>by
  have al:=G7 ap O aM bx i xaa
  have D:=qq aM bx i xaa
  have g:=ph O F i
  rw[f9]
  by_cases c:F.getD i false=true
  ·rw[hI c]
   generalize f9 F vs i=S at*
   have s:∀j,j<vs.length->(S.2.set i S.1.length).getD j 0=if i=j then (S.1.length:Int)else S.2.getD j 0:=λj hj=>sc _ _ _ _ (hR D.l2 hj)
   have f:jk (fw xss S.1 S.1.length):=lS ap (λk=>g.at_ k) _
   have B:jk (fw xss vs i):=lS ap (λk=>O.at_ k) i
   have ax:=B6 (xss:=xss) (tq:=S.2.set i S.1.length) (v:=vs.getD i hK) f B λo ax=>by
    have hb:=i8 (aM i xaa) o ax
    rw[s _ xaa,hG xaa]
    exact al _ xaa (bx i xaa c o ax)
   simp only[yak,List.length_singleton]
   rw[zw,s j xaa]
   by_cases e:i=j
   ·subst e
    rw[hI rfl,kJ,tR _ (by rw[i5];omega)]
    exact ax
   ·have t:=D.to0 j xaa a9
    rw[hG e,jh _ _ xaa,rA _ (by rw[i5];omega)]
    exact al j xaa a9
  ·rw[hG c]
   have:j≠i:=λe=>c (e ▸ a9)
   rw[jh _ _ xaa]
   exact al j xaa a9
theorem B7(h:k<outs.length):(jO tq outs).getD k 0=tq.getD (outs.getD k 0).toNat 0:=by
 unfold jO;simp[List.getD_eq_getElem?_getD,h]
theorem rB{ins xss r us vs}(ah:Lk us vs)(ap:∀j,gH (xss.getD j []) (r.getD j []))(bp:jk xss)(m:jk r)(am:Kb us)(an:Kb vs):∀i,(∀j,j<i->okV ins vs j=true)->∀j,j<i->gH ((fw xss us i).getD j []) ((fw r vs i).getD j [])
 |0,_,j,hj=>by omega
 |i+1,h,j,hj=>by
  have al:=rB ah ap bp m am an i (λj hj=>h j xaa)
  have f:jk (fw xss us i):=lS bp (λk=>am.at_ k) i
  have B:jk (fw r vs i):=lS m (λk=>an.at_ k) i
  by_cases c:j<i
  ·rw[jh _ _ c,jh _ _ c]
   exact al j c
  ·have:j=i:=xaa
   subst this
   rw[kJ,kJ]
   have bA:=i8 (h j xaa)
   have e:=ah.at_ j
   generalize us.getD j hK=u at*
   generalize vs.getD j hK=v at*
   unfold cv at e
   injection e with af a0 aj e4 bW J
   refine iZ (vy (v:=v) ?_) (vx rfl rfl rfl (λ_=>ap _) (λ_=>rfl) f B (λc=>al _ (hO (bA _ (iP xaa)))) (λc=>al _ (hO (bA _ (kz xaa)))) (λc=>al _ (hO (bA _ (lq xaa)))))
   unfold fK
   simp[af,a0,aj,e4,bW,J]
def gl(p:Int)(vs:List Vl)(outs:List Int):List Vl×List Int:=if p=0 then kE vs outs else eqM 1 vs outs
theorem AX(vs outs):kE vs outs=gl 0 vs outs:=by unfold gl;rw[hI rfl]
theorem AY(vs outs):eqM 1 vs outs=gl 1 vs outs:=by unfold gl;rw[hG xab]
theorem nG(p)(h:okG ins vs outs=true):okG ins (gl p vs outs).1 (gl p vs outs).2=true:=by
 unfold gl;split
 ·exact EX h
 exact Mj 1 h
theorem xK(p)(h:Lk us vs):Lk (gl p us outs).1 (gl p vs outs).1/\(gl p us outs).2=(gl p vs outs).2:=by
 unfold gl;split
 ·exact EW h
 exact Mk 1 h
theorem Ky(p)(h:Kb vs):Kb (gl p vs outs).1:=by
 unfold gl;split
 ·exact ph h _ _
 exact mN h 1 _
theorem mA(p)(h:okG ins vs outs=true):(gl p vs outs).1.length<=vs.length/\(gl p vs outs).2.length=outs.length:=by
 obtain⟨_,_,h3,a6,_⟩:=gM h;unfold gl;split
 ·have bx:∀i,i<vs.length->(ndI vs outs vs.length).getD i false=true->∀o∈eY (vs.getD i hK),(ndI vs outs vs.length).getD o.toNat false=true:=λi hi bx o ax=>mg h3 vs.length yad i xaa hi bx o ax;have D:=qq h3 bx vs.length yad;exact⟨D.l1,by simp[kE,jO]⟩
 exact⟨by unfold eqM;rw[(qo 1 vs _).1];exact yad,by simp[eqM,jO]⟩
def tS(vs:List Vl)(outs:List Int)(ps:List Int):Nat->List Vl×List Int
 |0=>(vs,outs)
 |k+1=>gl (ps.getD k 0) (tS vs outs ps k).1 (tS vs outs ps k).2
theorem B8{ins vs outs}(aT)(h:okG ins vs outs=true):∀k,okG ins (tS vs outs aT k).1 (tS vs outs aT k).2=true
 |0=>h
 |k+1=>nG _ (B8 aT h k)
theorem LL{ins F vs}(aM:∀j,j<vs.length->okV ins vs j=true)(bx:∀i,i<vs.length->F.getD i false=true->∀o∈eY (vs.getD i hK),F.getD o.toNat false=true):∀i,i<=vs.length->
  (∀q,q<(f9 F vs i).1.length->∃j,j<i/\F.getD j false=true/\(f9 F vs i).2.getD j 0=(q:Int))/\(∀j,j<i->F.getD j false=true->(f9 F vs i).1.getD ((f9 F vs i).2.getD j 0).toNat hK=rnm (f9 F vs i).2 (vs.getD j hK))/\
  ∀j k,j<k->k<i->F.getD j false=true->F.getD k false=true->(f9 F vs i).2.getD j 0<(f9 F vs i).2.getD k 0
 |0,_=>⟨λq ao=>by simp[f9]at ao,λj hj=>by omega,λj k _ O=>by omega⟩
 |i+1,hi=>by
  have D:=qq aM bx i xaa
  obtain⟨B,U,h3⟩:=LL aM bx i xaa
  rw[f9]
  by_cases c:F.getD i false=true
  ·rw[hI c]
   generalize f9 F _ i=S at*
   have s:∀j,j<vs.length->(S.2.set i _).getD j 0=if i=j then (S.1.length:Int)else S.2.getD j 0:=λj hj=>sc _ _ _ _ (hR D.l2 hj)
   refine⟨λq ao=>?_,λj hj f=>?_,λj k m O f p=>?_⟩
   ·simp only[yak,List.length_singleton]at ao
    by_cases e:q<S.1.length
    ·obtain⟨j,a,b,d⟩:=B q e
     exact⟨j,by omega,b,by simp only;rw[s j xaa,hG xaa];exact d⟩
    ·exact⟨i,by omega,c,by simp only;rw[s i xaa,hI rfl];omega⟩
   ·simp only
    rw[s j xaa]
    by_cases e:i=j
    ·subst e
     rw[hI rfl,Int.toNat_natCast,iM]
    ·rw[hG e]
     have t:=D.to0 j xaa f
     rw[iU _ _ xaa,U j xaa f]
     have bA:=i8 (aM j xaa)
     have au:∀o∈eY _,S.2.getD _ 0=(S.2.set i _).getD o.toNat 0:=λo ax=>by
      have:=bA o ax
      rw[s _ xaa,hG xaa]
     generalize vs.getD j _=v at au
     unfold rnm
     congr 1
     ·split
      ·exact au _ (iP xaa)
      ·rfl
     ·split
      ·exact au _ (kz xaa)
      ·rfl
     ·split
      ·exact au _ (lq xaa)
      ·rfl
   ·simp only
    rw[s j xaa,s k xaa,hG xaa]
    by_cases e:i=k
    ·rw[hI e]
     exact(D.to0 j xaa f).2
    ·rw[hG e]
     exact h3 j k m xaa f p
  ·rw[hG c]
   refine⟨λq ao=>?_,λj hj f=>?_,λj k m O f p=>?_⟩
   ·obtain⟨j,a,b⟩:=B q ao
    exact⟨j,by omega,b⟩
   ·by_cases e:j=i
    ·subst e;exact absurd f c
    ·exact U j xaa f
   ·by_cases e:k=i
    ·subst e;exact absurd p c
    ·exact h3 j k m xaa f p
theorem G8{vs outs}{R:Nat->Prop}(ax:∀o∈outs,R o.toNat)(aM:∀j,j<vs.length->∀o∈eY (vs.getD j hK),R o.toNat):∀k,k<=vs.length->∀i,i<vs.length->(ndI vs outs k).getD i false=true->R i
 |0,_,i,hi,h=>by
  rw[ndI,jb _ _ _ (by simpa using hi),Bool.or_eq_true]at h
  rcases h with h|h
  ·simp[hi]at h
  ·obtain⟨o,B,e⟩:=List.any_eq_true.1 h
   have:o.toNat=i:=by simpa using e
   exact this ▸ ax o B
 |k+1,O,i,hi,h=>by
  rw[ndI]at h
  by_cases c:(ndI vs outs k).getD (vs.length-1-k) false=true
  ·rw[hI c,jb _ _ _ (by rw[lP];exact hi),Bool.or_eq_true]at h
   rcases h with q|q
   ·exact G8 ax aM k xaa i hi q
   ·obtain⟨o,B,e⟩:=List.any_eq_true.1 q
    have:o.toNat=i:=by simpa using e
    exact this ▸ aM _ xaa o B
  ·rw[hG c]at h
   exact G8 ax aM k xaa i hi h
theorem AZ(h:fK u v=true):fK v u=true:=by
 unfold fK at*;simp only[Bool.and_eq_true,beq_iff_eq,Bool.or_eq_true,bne_iff_ne] at*;obtain⟨⟨aK,aP,b3,ap,aC⟩,m⟩:=h;exact⟨⟨aK.symm,aP.symm,b3.symm,ap.symm,aC.symm⟩,m.imp (hR aK id) Eq.symm⟩
theorem zy{ins vs}:∀i,(∀j,j<i->okV ins vs j=true)->∀j k,j<k->k<i->(fA 1 vs i).2.getD k 0=(k:Int)->fK ((fA 1 vs i).1.getD j hK) ((fA 1 vs i).1.getD k hK)=false
 |0,_,j,k,_,O,_=>by omega
 |i+1,h,j,k,m,O,av=>by
  have al:=zy i (λj hj=>h j xaa)
  have E:=lO _ _ 1 i (λj hj=>h j xaa)
  unfold fA at av⊢
  generalize fA 1 _ i=S at*
  simp only at av⊢
  rw[iU _ _ (by rw[E.l1];omega)]
  by_cases c:k<i
  ·rw[mW _ _ (by rw[E.l2];exact c)]at av
   rw[iU _ _ (by rw[E.l1];exact c)]
   exact al j k m c av
  ·have:k=i:=xaa
   subst this
   have af:=mf S.2 (gQ 1 S.1 (rnm S.2 (vs.getD k hK)) k)
   rw[E.l2]at af
   have a0:=iM S.1 (rnm S.2 (vs.getD k hK))
   rw[E.l1]at a0
   rw[af]at av
   rw[a0]
   unfold gQ at av
   rw[hI rfl]at av
   have a9:S.1.findIdx (fK · (rnm S.2 (vs.getD k hK)))=k:=xaa
   have y:j<S.1.length:=by rw[E.l1];exact m
   have:=List.not_of_lt_findIdx (hR a9 m)
   rw[yah,yal y]
   simpa using this
theorem DX(aI:∀o∈eY u,∀q∈eY v,tq.getD o.toNat 0=tq.getD q.toNat 0->o=q)(h:fK (rnm tq u) (rnm tq v)=true):fK u v=true:=by
 unfold fK at*;simp only[Bool.and_eq_true,beq_iff_eq,Bool.or_eq_true,bne_iff_ne] at*;obtain⟨⟨aK,aP,b3,ap,aC⟩,m⟩:=h;have af:u.op=v.op:=aK;refine⟨⟨af,aP,?_,?_,?_⟩,m⟩
 ·unfold rnm at b3;simp only at b3;by_cases c:0<cnt v.op
  ·rw[af,hI c,hI c]at b3;exact aI _ (iP (hT af)) _ (iP xaa) b3
  rw[af,hG c,hG c]at b3;exact b3
 ·unfold rnm at ap;simp only at ap;by_cases c:1<cnt v.op
  ·rw[af,hI c,hI c]at ap;exact aI _ (kz (hT af)) _ (kz xaa) ap
  rw[af,hG c,hG c]at ap;exact ap
 unfold rnm at aC;simp only at aC;by_cases c:2<cnt v.op
 ·rw[af,hI c,hI c]at aC;exact aI _ (lq (hT af)) _ (lq xaa) aC
 rw[af,hG c,hG c]at aC;exact aC
theorem G9(h:okG ins vs outs=true){p q}(s:p<q)(ao:q<(gl 0 (gl 1 vs outs).1 (gl 1 vs outs).2).1.length):
  fK ((gl 0 (gl 1 vs outs).1 (gl 1 vs outs).2).1.getD q hK) ((gl 0 (gl 1 vs outs).1 (gl 1 vs outs).2).1.getD p hK)=false:=by
 have P:=nG 1 h;obtain⟨_,_,ay,bi,_⟩:=gM P;obtain⟨_,_,h3,a6,_⟩:=gM h;have E:=lO _ _ 1 _ h3;have R:=zy _ h3;have af:gl 1 _ outs=eqM 1 vs _:=(AY _ _).symm;have bg:∀(M:List _×List _),gl 0 _ M.2=kE M.1 _:=λM=>(AX _ _).symm;rw[bg]at ao⊢;rw[af]at ao ay bi⊢
 have ax:∀o∈(eqM 1 vs _).2,(fA 1 _ _).2.getD _ 0=o.toNat/\o.toNat<vs.length:=λo ax=>by
  unfold eqM jO at ax
  obtain⟨x,ap,rfl⟩:=List.mem_map.1 ax
  have hb:=a6 x ap
  have t:=E.to0 x.toNat xaa
  exact⟨by rw[E.root _ xaa];omega,by omega⟩
 have bJ:(eqM 1 _ outs).1.length=vs.length:=E.l1
 have aM:∀j,j<(eqM 1 vs outs).1.length->∀o∈eY ((eqM 1 _ outs).1.getD j _),(fA 1 _ _).2.getD _ 0=o.toNat/\o.toNat<vs.length:=λj hj o ax=>by
  have:=E.opr j xaa o ax
  exact⟨by rw[this.2];omega,by omega⟩
 have bx:∀i,i<(eqM 1 _ _).1.length->(ndI _ (eqM 1 vs outs).2 _).getD i _=true->_:=λi hi bx o ax=>mg ay _ yad i xaa hi bx o ax;have bK:=G8 (R:=λi=>(fA 1 _ _).2.getD i 0=i/\i<vs.length) ax aM _ yad;obtain⟨d1,d2,d3⟩:=LL ay bx _ yad;unfold kE at ao⊢;simp only at ao⊢;have b3:(eqM 1 vs outs).1=(fA 1 _ _).1:=rfl;rw[<-b3]at R;generalize ndI (eqM 1 _ _).1 _ _=F at*;generalize (eqM 1 _ _).1=us at*;obtain⟨j,hj,g,B⟩:=d1 q ao;obtain⟨k,O,l,aO⟩:=d1 p xaa;have a1:=d2 j hj g;have Z:=d2 k O l;rw[B,Int.toNat_natCast]at a1;rw[aO,Int.toNat_natCast]at Z;rw[a1,Z];cases aX:fK (rnm (f9 F us us.length).2 (us.getD j hK)) (rnm (f9 F us us.length).2 (us.getD k hK))
 ·rfl
 have z:∀x y,x<us.length->y<us.length->F.getD x _=true->F.getD y _=true->(f9 F us us.length).2.getD x 0=(f9 F us us.length).2.getD y 0->x=y:=λx y ap bS m n e=>by
  rcases Nat.lt_trichotomy x y with c|c|c
  ·have:=d3 x y c bS m n;omega
  ·exact c
  ·have:=d3 y x c ap n m;omega
 have w:=i8 (ay j hj);have f:=i8 (ay k O)
 have bF:=DX (λo ax y bS e=>by
  have N:=w o ax
  have aD:=f y bS
  have:=z _ _ xaa xaa (bx j hj g o ax) (bx k O l y bS) e
  omega) aX
 have C:=bK j hj g;have c6:=bK k O l;rcases Nat.lt_trichotomy j k with c|c|c
 ·have:=R j k c xaa c6.1;rw[bF]at this;cases this
 ·subst c;omega
 have:=R k j c xaa C.1;rw[AZ bF]at this;cases this
theorem dA.qdd(h:Zp:=by
 rw[Int.toNat_natCast];refine⟨hj,?_⟩;rw[Kx hj (λo ax=>(E.opr _ hj o ax).1),aV];exact vy aX):Zp:=h
open dA in
theorem A0{S}(E:EqI ins vs i S):
  gQ 1 S.1 (rnm S.2 (vs.getD i hK)) i=i\/(gQ 1 S.1 (rnm S.2 (vs.getD i hK)) i).toNat<i/\gH ((fw xss S.1 i).getD (gQ 1 S.1 (rnm S.2 (vs.getD i hK)) i).toNat []) (one xss (rnm S.2 (vs.getD i hK)) (fw xss S.1 i)):=by
 generalize rnm _ _=v at*;unfold gQ;rw[hI rfl];by_cases a9:S.1.findIdx (fK · v)<S.1.length
 ·right;exact qdc
 exact xjj
theorem Ha{ins xss vs}(ap:jk xss)(O:Kb vs):∀i,(∀j,j<i->okV ins vs j=true)->∀j,j<i->gH ((fw xss (fA 1 vs i).1 i).getD ((fA 1 vs i).2.getD j 0).toNat []) ((fw xss vs i).getD j [])
 |0,_,j,hj=>by omega
 |i+1,h,j,hj=>by
  have al:=Ha ap O i (λj hj=>h j xaa)
  have E:=lO _ _ 1 i (λj hj=>h j xaa)
  have sv:=A0 (xss:=xss) E
  have f:=lS ap (λk=>(mN O 1 i).at_ k) i
  have B:=lS ap (λk=>O.at_ k) i
  have ax:=B6 (xss:=xss) f B λo ax=>al _ (hO (i8 (h i xaa) o ax))
  unfold fA
  generalize fA 1 _ i=S at*
  have g:=zw xss S.1 (rnm S.2 (vs.getD i hK))
  rw[E.l1]at g
  have l:=i5 xss S.1 i
  simp only
  rw[g]
  by_cases c:j<i
  ·have t:=E.to0 j c
   rw[mW _ _ (by rw[E.l2];exact c),rA _ (hT l),jh _ _ c]
   exact al j c
  ·have:j=i:=xaa
   subst this
   have:=mf S.2 (gQ 1 S.1 (rnm S.2 (vs.getD j hK)) j)
   rw[E.l2]at this
   rw[this,kJ]
   rcases sv with e|⟨af,a0⟩
   ·rw[e,tR _ (hT l)]
    exact ax
   ·rw[rA _ (hR l af)]
    exact iZ a0 ax
theorem DY{p}(aF:p=0\/p=1)(h:okG ins vs outs=true)(ap:jk xss)(O:Kb vs)(f:k<outs.length):
  gH ((fw xss (gl p vs outs).1 (gl p vs outs).1.length).getD ((gl p vs outs).2.getD k 0).toNat []) ((fw xss vs vs.length).getD (outs.getD k 0).toNat []):=by
 obtain⟨_,_,h3,a6,_⟩:=gM h;have ax:=a6 (outs.getD k 0) (by rw[yah,yal f];exact List.getElem_mem _);unfold gl;rcases aF with rfl|rfl
 ·rw[hI rfl];have bx:∀i,i<vs.length->(ndI _ outs _).getD i _=true->_:=λi hi bx o ax=>mg h3 _ yad i xaa hi bx o ax;unfold kE;simp only;rw[B7 f];exact G7 ap O h3 bx _ yad _ xaa (sN a6 _ _ (by rw[yah,yal f];exact List.getElem_mem _))
 rw[hG xab];unfold eqM;simp only;rw[B7 f,(qo 1 _ _).1];exact Ha ap O _ h3 _ xaa
theorem vz{Y p}(aF:p=0\/p=1)(h:okG ins vs outs=true)(X:Lk Y vs)(aI:Lk us (gl p Y outs).1)(ap:∀j,gH (xss.getD j []) (r.getD j []))(bp:jk xss)(m:jk r)(n:Kb us)(bX:Kb vs)(f:Kb Y)(O:k<outs.length):
  gH ((fw xss us us.length).getD ((gl p Y outs).2.getD k 0).toNat []) ((fw r vs vs.length).getD (outs.getD k 0).toNat []):=by
 have aL:okG ins Y outs=true:=hR X.okG h
 have P:=nG p aL;obtain⟨_,_,z,l,_⟩:=gM P;obtain⟨_,_,h3,a6,_⟩:=gM h;have b5:=(mA p aL).2;have bV:=l ((gl p Y outs).2.getD k 0) (by rw[yah,yal xaa];exact List.getElem_mem _);have bO:=a6 (outs.getD k 0) (by rw[yah,yal O];exact List.getElem_mem _);refine iZ ?_ (iZ (DY aF aL bp f O) ?_)
 ·rw[aI.len];exact rB aI (λ_=>rfl) bp bp n (Ky p f) _ z _ xaa
 rw[X.len];exact rB X ap bp m f bX _ h3 _ xaa
end
section
attribute[local go_sem] eF eE eD
variable{p k T au base i ab g9 cap9 m:Nat}{bN be aF cg:World}{a9 N aD u2 u1 Z b3:Value}{xs:List Int}{S:List Vl×List Int}{x:Int}{o:Obj}
theorem Hb{vs outs b}(hb:(ndG outs (ndS vs outs k) (vs.length-1-k)).getD (vs.length-1-k) false=b):ndS vs outs (k+1)=if b=true then ii (ndG outs (ndS vs outs k) (vs.length-1-k)) (eY (vs.getD (vs.length-1-k) hK))else ndG outs (ndS vs outs k) (vs.length-1-k):=by
 rw[ndS,hb]
theorem zB{F s}(h:F.getD i false=true):(ii F s).getD i false=true:=by
 have hi:i<F.length:=by
  rcases Nat.lt_or_ge i F.length with c|c
  ·exact c
  exact xkm
 rw[jb _ _ _ hi,h,Bool.true_or]
def SPo(w:World)(n1 n3:Nat)(ins:List Int)(M:List Vl×List Int)(e:Ending)(w':World):Prop:=
 ∃a1 d1 a2 n2 d2 a3 d3 us,e=.returned (eX a1 n1 d1 a2 n2 d2 a3 n3 d3)/\GS w' a1 n1 a2 n2 a3 n3 ins us M.2/\Lk us M.1/\Kept 0 0 w w'
structure DS(W w6:World)(T O n2 base:Nat)(u1:Value)(S:List Vl×List Int)(vv:Value):Prop where
 tq:IR W T S.2
 tl:S.2.length=n2
 ob:RB W O u1 vv (.slice none 0 0)
 own:W.ownsRow base 40 6 vv S.1.length (fW S.1)
 ch:Chg (λb=>b=T\/b=O\/base<=b) w6 W
 bz:base<=W.heap.size
theorem RB.put1{W}(t:RB W p a9 N aD)(v):RB (W.setCell ⟨p,1,none⟩ v) p a9 v aD:=
 ⟨by simpa using t.sz,by rw[eN _ _ _ _ _ _ (.inr xaa)];exact t.q0,fR _ _ _ _ _ t.q1,by rw[eN _ _ _ _ _ _ (.inr xaa)];exact t.q2,by simp[t.f0],by simp[t.f1],by simp[t.f2]⟩
theorem RB.put2{W}(t:RB W p a9 N aD)(v):RB (W.setCell ⟨p,2,none⟩ v) p a9 N v:=
 ⟨by simpa using t.sz,by rw[eN _ _ _ _ _ _ (.inr xaa)];exact t.q0,by rw[eN _ _ _ _ _ _ (.inr xaa)];exact t.q1,fR _ _ _ _ _ t.q2,by simp[t.f0],by simp[t.f1],by simp[t.f2]⟩
theorem dB.qdf(h:Zp:=by
 exact(((f.ob.keepC (g.chg1 (S:=λb=>b=T) rfl) (Ne.symm ak)).keep bT).keep bE).keepC aC (λc=>hO (C _ c))):Zp:=h
open dB in
theorem DS.mid{W}(f:DS W cg T au ab base u1 S b3)(bT:Kept 0 0 (W.setCell ⟨T,i,none⟩ (hF x)) bN)(y:au<base)(ak:T≠au)(aQ:((bN.alloc o).drewN m).grownBy be b3.ownBlock):RB be au u1 b3 (.slice none 0 0):=by
 exact qde
theorem dC.qdf(h:Zp:=by
 have j:=DS.mid f bT y ak aQ;have e:=eU (lo:=au) (hi:=au+1) be ⟨au,1,none⟩ (hE g9 (S.1.length+1) cap9) yac;have aO:=(((f.tq.set i x).keep bT yaa).keep bE yaa).keepC aC (λc=>hO (C _ c));have h:=eI aU (k:=g9) rfl;refine⟨aO.keep e xaa,by simp[f.tl],j.put1 _,?_,?_,?_⟩
 ·rw[yak,List.length_singleton,kD,mV];exact eJ aU (λc=>by simp[Value.ownBlock]at c;omega)
 ·exact Chg.trans f.ch (Chg.trans (g.chg1 (.inl rfl)) (Chg.trans bT.chg (Chg.trans bE.chg (Chg.trans (aC.mono λb _ c=>.inr (.inr (C b c))) (e.chg1 (.inr (.inl rfl)))))))
 have B:=f.bz;have h3:=g.size;have a6:=bT.size;have bK:=bE.size;have bm:=aC.size;have bP:=e.size;omega):Zp:=h
open dC in
theorem DS.next{W nv}(f:DS W cg T au ab base u1 S b3)(bT:Kept 0 0 (W.setCell ⟨T,i,none⟩ (hF x)) bN)(bh:T<base)(y:au<base)(ak:T≠au)
  (aU:be.ownsRow base 40 6 (hE g9 (S.1.length+1) cap9) (S.1.length+1) (fW S.1++nv.cells)) (aQ:((bN.alloc o).drewN m).grownBy be b3.ownBlock):
  DS (be.setCell ⟨au,1,none⟩ (hE g9 (S.1.length+1) cap9)) cg T au ab base u1 (S.1++[nv],S.2.set i x) (hE g9 (S.1.length+1) cap9):=by
 exact qde
structure DT(W wE:World)(O base k:Nat)(u1 u2 ov:Value)(xs:List Int):Prop where
 ob:RB W O u1 u2 ov
 own:W.ownsRow base 3 1 ov k (xs.map (Value.int .i64))
 ch:Chg (λb=>b=O\/base<=b) wE W
 bz:base<=W.heap.size
theorem DT.mid{W}(f:DT W aF au base k u1 u2 Z xs)(y:au<base)(aQ:((W.alloc o).drewN m).grownBy be Z.ownBlock):RB be au u1 u2 Z:=by
 have bE:=(ez 0 0 W o).trans (eL 0 0 _ m);exact(f.ob.keep bE).keepC (gX aQ) (λc=>hO ((eI f.own c).1))
theorem DT.next{W}(f:DT W aF au base k u1 u2 Z xs)(y:au<base)(aU:be.ownsRow base 3 1 (hE g9 (k+1) cap9) (k+1) (xs.map (Value.int .i64)++[hF x]))(aQ:((W.alloc o).drewN m).grownBy be Z.ownBlock):
  DT (be.setCell ⟨au,2,none⟩ (hE g9 (k+1) cap9)) aF au base (k+1) u1 u2 (hE g9 (k+1) cap9) (xs++[x]):=by
 have bE:=(ez 0 0 W o).trans (eL 0 0 _ m);have aC:=gX aQ;have C:∀b,Z.ownBlock=some b->_:=λb hb=>(eI f.own hb).1;have e:=eU (lo:=au) (hi:=au+1) be ⟨au,2,none⟩ (hE g9 (k+1) cap9) yac;have h:=eI aU (k:=g9) rfl;refine⟨(DT.mid f y aQ).put2 _,?_,?_,?_⟩
 ·rw[List.map_append];exact eJ aU (λc=>by simp[Value.ownBlock]at c;omega)
 ·exact Chg.trans f.ch (Chg.trans bE.chg (Chg.trans (aC.mono λb _ c=>.inr (C b c)) (e.chg1 (.inl rfl))))
 have B:=f.bz;have bK:=bE.size;have bm:=aC.size;have bP:=e.size;omega
theorem aM.qbc(h:Zp:=by
 rw[bz]at C;have fo:((w.alloc (eZ N Y c1 aD ab c2 ad aa c3)).alloc fE).heap.size=w.heap.size+1+1:=by simp
 have aw:=Am ab ((w.alloc (eZ N Y c1 aD ab c2 ad aa c3)).alloc fE) xaa;have bB:=BR.made ((w.alloc (eZ N Y c1 aD ab c2 ad aa c3)).alloc fE) ab;have an:=ez 0 0 ((w.alloc (eZ N Y c1 aD ab c2 ad aa c3)).alloc fE) (.cells (madeCells #[.bool false] ab) 4);rw[fo]at aw bB;have aH:V _:=(aT.keep am).keep an;have HR:V _:=C.keep an;have aL:V _:=f.keep ((H.trans am).trans an);have bK:V (VS w 0 w.heap.size aD ab vs/\IS w 0 w.heap.size N Y ins/\IS w 0 w.heap.size ad aa outs):=⟨f.v,f.i,f.o⟩
 have HK:V _:=(H.trans am).trans an;have fk:ndS vs outs 0=List.replicate ab false:=by rw[ndS,cp]
 rw[<-fk]at bB;have bw:V _:=bB;have ec:V ((((w.alloc (eZ N Y c1 aD ab c2 ad aa c3)).alloc fE).alloc (.cells (madeCells #[.bool false] ab) 4)).heap.size=w.heap.size+1+1+1):=by show _=_;simp
 clear f b6 ci cz ct aM ax cp cA cK C bz fo H am an bB fk;obtain⟨_,a7,aK,aP⟩:=aT;obtain⟨_,bi,a5,p2⟩:=aH.o;go_enter func69,ntmps69;go_wp2_with fail;clear a7 aK aP bi a5 p2 aw;generalize ((w.alloc (eZ N Y c1 aD ab c2 ad aa c3)).alloc fE).alloc (.cells (madeCells #[.bool false] ab) 4)=aG at aH HR aL HK bw ec⊢;go_loopw [5] (λx W=>∃j:Nat,j<=ab/\x=hF ((ab:Int)-1-j)/\V (BR W (w.heap.size+1+1) (ndS vs outs j))/\V (Kept (w.heap.size+1+1) (w.heap.size+1+1+1) aG W)) (λx _=>(intOf x+1).toNat)
 case atStart=>exact⟨0,Nat.zero_le _,by go_num,bw,Kept.refl _ _ _⟩
 case round=>
  obtain⟨j,hj,rfl,bx,ar⟩:=hrel;clear bw;by_cases aB:j<ab
  ·obtain⟨i,hi⟩:∃i:Nat,i=ab-1-j:=⟨_,rfl⟩
   have bf:(ab:Int)-1-j=i:=xaa;have ai:i<ab:=xaa;rw[bf];have cG:V _:=hi;have bZ:V _:=bf;clear hi bf;have cq:(ndS vs outs j).length=ab:=by rw[oV];exact HL.o.1
   have b0:V _:=cq;have b2:=bx.o.cell i xaa;have bk:=bx.o.free i;have cn:=i8 (b1.o i ai);have cD:=se (b1.o i ai)
   have cB:V (∀W',Kept (w.heap.size+1+1) (w.heap.size+1+1+1) aG W'->∃g off,aD=some ⟨g,off,none⟩/\g<W'.heap.size/\g<w.heap.size/\At W' g (off+i*6) (vs.getD i hK)):=λW' bS=>by
    obtain⟨g,off,e,aS,bb,_,bD⟩:=(VS.keep (VS.keep bK.o.1 HK.o yaa) bS (.inl xaa)).at_idx ai
    exact⟨g,off,e,aS,bb,bD⟩
   have fa:V (∀W',Kept (w.heap.size+1+1) (w.heap.size+1+1+1) aG W'->Calls prog 110 #[eX N Y c1 aD ab c2 ad aa c3,hF (i:Nat)] W' λe J=>e=.returned (.bool (isO outs i))/\Kept 0 0 W' J):=λW' bS=>
    Fv W' N aD ad Y c1 ab c2 aa c3 i _ _ outs ((bK.o.2.2.keep HK.o yaa).keep bS (.inl xaa)) xaa
   have cO:V _:=G0.keepT aH.o ar.o xaa
   have co:V (ndS vs outs (j+1)=if (ndG outs (ndS vs outs j) i).getD i false=true then ii (ndG outs (ndS vs outs j) i) (eY (vs.getD i hK))else ndG outs (ndS vs outs j) i):=by
    show _=_;have:=Hb (vs:=vs) (outs:=outs) (k:=j) rfl;rw[HL.o.1,<-cG.o]at this;exact this
   have et:V ((ndG outs (ndS vs outs j) i).getD i false=((ndS vs outs j).getD i false||isO outs i)/\ndG outs (ndS vs outs j) i=(ndS vs outs j).set i ((ndS vs outs j).getD i false||isO outs i)):=⟨by unfold ndG;rw[ww _ _ _ _ xaa,hI rfl],rfl⟩
   generalize fu:ndS vs outs j=F at bx b2 b0 co et cq;clear fu cq;obtain⟨_,bi,a5,p2⟩:=cO.o;go_upto_region 6 with fail;go_cut [32] (λc bp=>V (BR bp (w.heap.size+1+1) (ndG outs F i))/\V (Kept (w.heap.size+1+1) (w.heap.size+1+1+1) aG bp))
   case first=>
    cases hb:F.getD i false
    ·rw[hb]at b2 et;go_wp2_with fail;refine yai (fa.o wr ar.o) ?_;rintro e ag ⟨rfl,an⟩;have t:=BR.keep bx.o an yaa;have cW:=t.cell i (hR b0.o ai);have fG:=t.free i
     have R1:V (BR (ag.setCell ⟨w.heap.size+1+1,i,none⟩ (.bool (isO outs i))) (w.heap.size+1+1) (ndG outs F i)):=by
      have:=BR.set t i (isO outs i);show BR _ _ _;rw[et.o.2];exact this
     have R2:V _:=Kept.trans (Kept.trans ar.o (an.mono (lo':=w.heap.size+1+1) (hi':=w.heap.size+1+1+1) λb _ c=>by omega)) (eU (lo:=w.heap.size+1+1) (hi:=w.heap.size+1+1+1) ag ⟨w.heap.size+1+1,i,none⟩ (.bool (isO outs i)) yac);generalize F.getD i false=z at cW;clear an t bx ar;go_wp2_with fail;go_meet;exact⟨R1,R2⟩
    rw[hb]at b2 et
    have R1:V (BR (wr.setCell ⟨w.heap.size+1+1,i,none⟩ (.bool true)) (w.heap.size+1+1) (ndG outs F i)):=by
     have:=BR.set bx.o i true;show BR _ _ _;rw[et.o.2];exact this
    have R2:V _:=Kept.trans ar.o (eU (lo:=w.heap.size+1+1) (hi:=w.heap.size+1+1+1) wr ⟨w.heap.size+1+1,i,none⟩ (.bool true) yac);clear bx ar;go_wp2_with fail;go_meet;exact⟨R1,R2⟩
   case rest=>
    obtain⟨t,P⟩:=hcut;clear bx ar et fa b2 bk bi a5 p2 cO;have e6:V ((ndG outs F i).length=ab):=by show _=_;unfold ndG;rw[List.length_set];exact b0.o
    generalize fv:ndG outs F i=n at t co e6;clear fv b0;generalize en:vs.getD i hK=v at cB co cn cD;clear en;have a0:V _:=cn;have cw:V _:=Ft v.op cD.1 cD.2;have cI:=gK v.op;clear cn cD;go_wp2_with fail;go_loopw [6] (λx W=>∃q:Nat,q<=cnt v.op/\x=hF q/\V (q=0\/n.getD i false=true)/\V (BR W (w.heap.size+1+1) (ii n ((eY v).take q)))/\V (Kept (w.heap.size+1+1) (w.heap.size+1+1+1) aG W)) (λx _=>cnt v.op-(intOf x).toNat)
    case atStart=>exact⟨0,Nat.zero_le _,rfl,.inl rfl,t,P⟩
    case round=>
     obtain⟨q,ao,rfl,a2,bx,ar⟩:=hrel;clear t P;obtain⟨g,off,rfl,aQ,fl,bm⟩:=cB.o wr ar.o;obtain⟨bd,aR,aV,bY,ce,cl⟩:=bm;obtain⟨_,bi,a5,p2⟩:=G0.keepT aH.o ar.o xaa;have e0:(ii n ((eY v).take q)).length=ab:=by rw[kX];exact e6.o
     by_cases b4:q<cnt v.op
     ·cases hb:n.getD i false
      ·have e1:q=0:=by
        rcases a2.o with c|c
        ·exact c
        rw[hb]at c;cases c
       subst e1;have b2:=bx.o.cell i xaa;rw[List.take_zero]at b2;have bg:ii n []=n:=rfl;rw[bg,hb]at b2
       have R1:V (BR wr (w.heap.size+1+1) (ndS vs outs (j+1))):=by
        show BR _ _ _;rw[co.o,hb,hG xac];exact bx.o
       have R2:V _:=ar.o;clear bx ar a2 e0 hb bg;exact xfq
      have b2:=bx.o.cell i xaa;rw[zB hb]at b2;clear hb;have af:=jw (by rw[ja];exact b4);have cb:=a0.o _ af;rw[uQ v b4]at cb;obtain⟨m,em,aw⟩:∃m:Nat,fld v q=m/\m<ab:=⟨(fld v q).toNat,by omega,by omega⟩
      have c6:V _:=λW=>by
       have:=mE W v q xaa
       rw[em]at this
       exact this
      go_wp2_with (first|(go_at_call 42;refine yai (cw.o _) ?_;rintro e be ⟨rfl,rfl⟩)|fail);refine yai (c6.o _) ?_;rintro e be ⟨rfl,I⟩;have eg:=BR.keep bx.o I yaa;have c2':=eg.cell m xaa;have cy:=eg.free m
      have R1:V (BR (be.setCell ⟨w.heap.size+1+1,m,none⟩ (.bool true)) (w.heap.size+1+1) (ii n ((eY v).take (q+1)))):=by
       have:=BR.set eg m true;show BR _ _ _;rw[oJ _ _ (by rw[ja];exact b4),uQ v b4,em,Int.toNat_natCast];exact this
      have R2:V _:=Kept.trans (Kept.trans ar.o (I.mono (lo':=w.heap.size+1+1) (hi':=w.heap.size+1+1+1) λb _ c=>by omega)) (eU (lo:=w.heap.size+1+1) (hi:=w.heap.size+1+1+1) be ⟨w.heap.size+1+1,m,none⟩ (.bool true) yac);generalize (ii n ((eY v).take q)).getD m false=z at c2';clear bx ar a2 e0 af cb em I eg b2 bd aR aV bY ce cl bi a5 p2;go_wp2;go_roundw;exact⟨q+1,by omega,by go_num,.inr trivial,R1,R2⟩;simp[intOf];omega
     obtain rfl:q=cnt v.op:=xaa
     have R1:V (BR wr (w.heap.size+1+1) (ndS vs outs (j+1))):=by
      have B:=bx.o;rw[yao (by rw[ja];omega)]at B;show BR _ _ _;rw[co.o];split
      ·exact B
      rename_i ca;rcases a2.o with c|c
      ·have:=List.length_eq_zero_iff.1 (by rw[ja];exact c);rw[this]at B;exact B
      exact absurd c ca
     have R2:V _:=ar.o;clear bx ar a2 e0;exact xfq
  obtain rfl:j=ab:=xaa;have ap:(j:Int)-1-j=-1:=xaa;rw[ap];clear ap
  have dg:V (BR wr (w.heap.size+1+1) (ndI vs outs j)):=by
   show BR _ _ _;have e:=OJ vs outs fq.o;rw[HL.o.1]at e;rw[<-e];exact bx.o
  have bX:V _:=HK.o.new ar.o xaa;have ch:V _:=G0.keepT aH.o ar.o xaa;have bR:V _:=RB.keepC HR.o (ar.o.chg1 (S:=λb=>b=w.heap.size+1+1) rfl) xaa;have cT:V (w.heap.size+1+1+1<=wr.heap.size):=by have B:=ar.o.size;have U:=ec.o;show _<=_;omega
  clear bx ar aH HR aL HK;have aw:=q7 j wr xaa;have bh:=IR.made wr j;have aJ:=ez 0 0 wr (.cells (madeCells #[hF 0] j) 3);have ek:V _:=oh (wr.alloc (.cells (madeCells #[hF 0] j) 3)) _ _ N Y c1 ins xaa (IS.keep bK.o.2.1 (bX.o.trans aJ) yaa);have ey:V _:=bh;have bU:V _:=bX.o.trans aJ;have X:V _:=ch.o.keep aJ;have ah:V _:=bR.o.keep aJ;have eu:V _:=BR.keep dg.o aJ yaa;obtain⟨_,bi,a5,p2⟩:=X.o;clear aJ bh bX ch bR dg;go_wp2_with fail;clear bi a5 p2 aw;have aX:V ((wr.alloc (.cells (madeCells #[hF 0] j) 3)).heap.size=wr.heap.size+1):=by show _=_;simp
  generalize wr.alloc (.cells (madeCells #[hF 0] j) 3)=bj at ek ey bU X ah eu aX⊢;refine yai ek.o ?_;rintro e bF ⟨a1,d1,rfl,bV,bW⟩;have cd:=ez 0 0 bF (eZ a1 Y d1 none 0 0 none 0 0);have ew:V _:=tP bF (.slice a1 Y d1) (.slice none 0 0) (.slice none 0 0);have eA:V _:=IR.keep ey.o (bW.trans cd) yaa;have bH:V _:=bU.o.trans (bW.trans cd);have cu:V _:=X.o.keep (bW.trans cd);have ex:V _:=ah.o.keep (bW.trans cd);have ev:V _:=BR.keep eu.o (bW.trans cd) yaa;have ep:V _:=eW bV cd;have cS:V (∀b,(Value.slice a1 Y d1).ownBlock=some b->_):=λb hb=>eI bV hb;have cc:V (wr.heap.size+1<=bF.heap.size/\(bF.alloc (eZ a1 Y d1 none 0 0 none 0 0)).heap.size=bF.heap.size+1/\bj.heap.size=wr.heap.size+1):=⟨hQ bW.size aX.o,by simp,aX.o⟩
  clear bW cd bV ek ey bU X ah eu aX;go_wp2_with fail;generalize bF.alloc (eZ a1 Y d1 none 0 0 none 0 0)=cg at ew eA bH cu ex ev ep cc⊢
  have el:V (DS cg cg wr.heap.size bF.heap.size j cg.heap.size (.slice a1 Y d1) (f9 (ndI vs outs j) vs 0) (.slice none 0 0)):=
   ⟨by rw[f9,HL.o.1];exact eA.o,by rw[f9,HL.o.1];simp,ew.o,yav _ _ _ _,Chg.refl _ _,yad⟩
  clear ew eA;have dp:V (w.heap.size+1+1+1<=wr.heap.size/\wr.heap.size+1<=bF.heap.size/\cg.heap.size=bF.heap.size+1/\bj.heap.size=wr.heap.size+1):=⟨cT.o,cc.o⟩
  clear cT cc;generalize wr.heap.size=T at el dp⊢;go_loopw [9] (λx W=>∃(i:Nat) (b3:Value),i<=j/\x=hF i/\V (DS W cg T bF.heap.size j cg.heap.size (.slice a1 Y d1) (f9 (ndI vs outs j) vs i) b3)) (λx _=>j-(intOf x).toNat)
  case atStart=>exact⟨0,.slice none 0 0,Nat.zero_le _,rfl,el⟩
  case round=>
   obtain⟨i,b3,hi,rfl,aY⟩:=hrel;clear el;by_cases aB:i<j
   ·have cV:=aY.o.ch.size;have bJ:=dp.o;obtain⟨g,off,rfl,aQ,fl,_,bm⟩:=(VS.keepC (VS.keep bK.o.1 bH.o yaa) aY.o.ch (λg _ U=>by omega)).at_idx aB;have cn:=i8 (b1.o i aB);have cD:=se (b1.o i aB);have a8:=BR.keepC ev.o aY.o.ch xaa;have ee:(ndI vs outs j).length=j:=by rw[lP];exact HL.o.1
    have b2:=a8.cell i xaa;have cH:V _:=G0.keepC cu.o aY.o.ch xaa;have l:=oK (ndI vs outs j) vs i;obtain⟨_,bI,bL,bM,s,aj,c9⟩:=aY.o.ob;obtain⟨_,bi,a5,p2⟩:=cH.o;cases hb:(ndI vs outs j).getD i false
    ·have HE:V (DS wr cg T bF.heap.size j cg.heap.size (.slice a1 Y d1) (f9 (ndI vs outs j) vs (i+1)) b3):=by show DS _ _ _ _ _ _ _ _ _;rw[tQ hb];exact aY.o
     rw[hb]at b2;clear hb ee l cn a8 aY;go_wp2;go_roundw;exact⟨i+1,b3,by omega,by go_num,HE⟩;simp[intOf];omega
    rw[hb]at b2;have HE:V _:=B5 (vs:=vs) hb;generalize aM:vs.getD i hK=v at bm HE cn cD;generalize aU:f9 (ndI vs outs j) vs i=S at aY HE l;have eC:V _:=aY.o.tl;have cr:=IR.cell aY.o.tq i (hR eC.o aB);have ds:=IR.free aY.o.tq i;generalize S.2.getD i 0=d0 at cr;obtain⟨bq,aC,rfl⟩:=jd aY.o.own
    have aA:V (∀W,Kept 0 0 (wr.setCell ⟨T,i,none⟩ (hF (S.1.length:Nat))) W->_):=λW bS=>
     E5 W v _ _ (some ⟨T,0,none⟩) j j _ (IR.isAt (IR.keep (IR.set aY.o.tq i (S.1.length:Nat)) bS yaa) (by rw[List.length_set];exact aY.o.tl)) cD (λo h=>hO (cn o h))
    generalize rnm (S.2.set i (S.1.length:Nat)) v=nv at HE aA;have ea:S.1.length<=2000:=xaa;have c8:=eU (lo:=T) (hi:=T+1) wr ⟨T,i,none⟩ (hF (S.1.length:Nat)) yac;have cJ:V _:=At.keep bm aQ c8 xaa;have dd:V _:=RB.keepC aY.o.ob (c8.chg1 (S:=λb=>b=T) rfl) xaa;have eb:V _:=G0.keepT cH.o c8 xaa;have fc:V _:=eJ (P:=T) (o:=i) (u:=hF (S.1.length:Nat)) aY.o.own (λc=>hO ((eI aY.o.own c).1));have cC:V _:=aY.o;have fM:T≠w.heap.size:=xaa;have ak:T≠bF.heap.size:=xaa;have fP:T≠g:=xaa;have ed:=aQ;obtain⟨bd,aR,aV,bY,ce,cl⟩:=bm;have e7:V (∀bN be o m,Kept 0 0 (wr.setCell ⟨T,i,none⟩ (hF (S.1.length:Nat))) bN->((bN.alloc o).drewN m).grownBy be (Value.slice bq S.1.length aC).ownBlock->_):=λbN be o m bT a6=>DS.mid (o:=o) (m:=m) cC.o bT xaa ak a6;have e9:V (∀bN be o m g9 cap9,Kept 0 0 (wr.setCell ⟨T,i,none⟩ (hF (S.1.length:Nat))) bN->be.ownsRow cg.heap.size 40 6 (hE g9 (S.1.length+1) cap9) (S.1.length+1) (fW S.1++nv.cells)->((bN.alloc o).drewN m).grownBy be (Value.slice bq S.1.length aC).ownBlock->_):=λbN be o m g9 cap9 bT r a6=>DS.next (o:=o) (m:=m) cC.o bT xaa xaa ak r a6;have bO:V (cg.heap.size<=(wr.setCell ⟨T,i,none⟩ (hF (S.1.length:Nat))).heap.size):=by show _<=_;simp;exact cC.o.bz
    go_wp2_with fail;clear bd aR aV bY ce cl cr ds b2 bi a5 p2 bI bL bM s aj c9 c8;generalize wr.setCell ⟨T,i,none⟩ (hF (S.1.length:Nat))=ay at aA cJ dd eb fc e7 e9 bO⊢;have fT:g<ay.heap.size:=hO bO.o
    clear aY cC aU aM hb ee l cn a8 cD cH ed aQ;obtain⟨bd,aR,aV,bY,ce,cl⟩:=cJ.o;obtain⟨_,bI,bL,bM,s,aj,c9⟩:=dd.o;obtain⟨_,bi,a5,p2⟩:=eb.o
    go_region_law (first
     |(go_simp;go_at_call 111;refine yai (aA.o _ (eG ay)) ?_;rintro e cf ⟨rfl,bT⟩;have Q:=(eG ay).trans bT;obtain⟨_,bo,az,aZ,bl,bG,bP⟩:=RB.keep dd.o Q)
     |(refine step_append_lies _ rfl (.tmp 82) (.tmp 90) 24 rfl cg.heap.size 40 bC (gO 0 0 0 0 0 0) 6 48 underlying24 eS bn bQ br rfl xab _ _ (fW S.1) (by simp[Act.eval]) ((eW fc.o Q).alloc _) ⟨cf.heap.size,0,none⟩ 1 1 nv.cells (by simp[Act.eval]) rfl (uC cf nv 0) (Ai nv) xab (by unfold maxLen;omega) xaa (by have B:=Q.size;have U:=bO.o;simp;omega) _ rfl ?_;intro g9 cap9 be bv a6 b9 ck;obtain⟨_,aW,aq,aN,fx,fy,fz⟩:=e7.o cf be _ 0 Q a6))
    all_goals
     have R:V _:=e9.o cf be _ 0 g9 cap9 Q bv a6
     clear bv a6 b9 ck Q bT
     go_wp2
     go_roundw;exact⟨i+1,_,by omega,by go_num,hR HE.o R⟩;simp[intOf];omega
   obtain rfl:i=j:=xaa;have cV:=aY.o.ch.size;have bJ:=dp.o;have l:=oK (ndI vs outs i) vs i;have ae:V (kE vs outs=((f9 (ndI vs outs i) vs i).1,jO (f9 (ndI vs outs i) vs i).2 outs)):=by show _=_;unfold kE;rw[HL.o.1]
   have bA:V _:=ph (show Kb vs from bK.o.1.lt) (ndI vs outs i) i;obtain⟨bq,aC,rfl⟩:=jd aY.o.own;generalize aU:f9 (ndI vs outs i) vs i=S at aY ae bA l;clear aU;have cH:V _:=G0.keepC cu.o aY.o.ch xaa;have ff:V _:=RB.keepC ex.o aY.o.ch xaa;have e5:V _:=fI ep.o aY.o.ch (λb hb=>hO (cS.o b hb));have cF:V _:=Chg.kept bH.o aY.o.ch (λb hb=>by omega);have eB:V (IR wr T S.2/\S.2.length=i):=⟨aY.o.tq,aY.o.tl⟩
   have cX:V _:=aY.o.own;have cj:V (DT wr wr bF.heap.size wr.heap.size 0 (.slice a1 Y d1) (.slice bq S.1.length aC) (.slice none 0 0) ((jO S.2 outs).take 0)):=⟨aY.o.ob,yav _ _ _ _,Chg.refl _ _,yad⟩
   have cx:V (bF.heap.size<wr.heap.size/\T<wr.heap.size/\w.heap.size+1+1+1<=T/\T<bF.heap.size/\cg.heap.size=bF.heap.size+1/\bj.heap.size=T+1):=⟨by omega,by omega,by omega,by omega,by omega,by omega⟩
   have fi:V (wr.heap.size<=wr.heap.size):=yad;clear aY cu ex ep bH ev cV bJ;go_wp2_with fail;generalize fj:wr.heap.size=E at cj cx fi;have e3:V _:=fj;clear fj fi;obtain⟨aF,cQ⟩:∃aF,aF=wr:=⟨_,rfl⟩
   rw[<-cQ]at cj cH ff e5 cF eB cX e3;go_loopw [10] (λx W=>∃(k:Nat) (Z:Value),k<=aa/\x=hF k/\V (DT W aF bF.heap.size E k (.slice a1 Y d1) (.slice bq S.1.length aC) Z ((jO S.2 outs).take k))) (λx _=>aa-(intOf x).toNat)
   case atStart=>exact⟨0,.slice none 0 0,Nat.zero_le _,rfl,by rw[cQ]at cj⊢;exact cj⟩
   case round=>
    obtain⟨k,Z,O,rfl,aY⟩:=hrel;clear cj cQ;have cV:=aY.o.bz;have bJ:=cx.o;obtain⟨_,bi,a5,p2⟩:=G0.keepC cH.o aY.o.ch xaa;obtain⟨_,bI,bL,bM,s,aj,c9⟩:=aY.o.ob;by_cases bE:k<aa
    ·have fm:=jw (xs:=outs) (q:=k) (hR HL.o.2 bE);have cb:=c7.o _ fm;obtain⟨m,em,aw⟩:∃m:Nat,outs.getD k 0=m/\m<i:=⟨(outs.getD k 0).toNat,by omega,by omega⟩
     obtain⟨fs,e2,al,rfl,aO,_,f5,cP⟩:=(IS.keepC (IS.keep bK.o.2.2 cF.o yaa) aY.o.ch (λg _ U=>by omega)).at_idx (o:=k) xaa xaa;obtain rfl:k=al:=xaa;rw[Int.toNat_natCast,em]at cP;have cr:=IR.cell (IR.keepC eB.o.1 aY.o.ch xaa) m (hR eB.o.2 aw)
     have bu:V ((jO S.2 outs).take (k+1)=(jO S.2 outs).take k++[S.2.getD m 0]):=by
      show _=_;rw[yat (by rw[kQ,HL.o.2];exact bE)];congr 2;unfold jO;rw[List.getElem_map,<-Int.toNat_natCast (m),<-em,yah (l:=outs),yal (hR HL.o.2 bE)];rfl
     generalize S.2.getD m 0=y at cr bu;obtain⟨b7,cM,rfl⟩:=jd aY.o.own;have ei:=aY.o.bz;have cC:V _:=aY.o;clear aY fm cb em;go_wp2_with fail;go_region_law ((refine step_append_lies _ rfl (.tmp 101) (.tmp 110) 23 rfl E 3 b8 (hF 0) 1 8 underlying23 eT cN ej dv rfl xab _ _ (((jO S.2 outs).take k).map (Value.int .i64)) (by simp[Act.eval]) (lX cC.o.own 1 _) ⟨wr.heap.size,0,none⟩ 1 1 [hF y] (by simp[Act.eval]) rfl (cell_one_new _ _ _) (by intro u aI;simp at aI;subst aI;rfl) xab (by unfold maxLen;omega) xaa yaf _ rfl ?_;intro g9 cap9 be bv a6 b9 ck;obtain⟨_,aW,aq,aN,fx,fy,fz⟩:=DT.mid cC.o cx.o.1 a6))
     all_goals
      have R:V _:=DT.next cC.o cx.o.1 bv a6
      rw[<-bu.o]at R
      clear bv a6 b9 ck
      go_wp2
      go_roundw;exact⟨k+1,_,by omega,by go_num,R⟩;simp[intOf];omega
    obtain rfl:k=aa:=xaa;obtain⟨b7,cM,rfl⟩:=jd aY.o.own;obtain⟨_,aW,aq,aN,av,ba,bc⟩:=RB.keepC ff.o aY.o.ch xaa;have cR:V _:=fI e5.o aY.o.ch (λb hb=>hO (cS.o b hb));have ef:V _:=fI cX.o aY.o.ch (λb hb=>hQ (eI cX.o hb) e3.o);have di:V _:=aY.o.own;have er:V _:=Chg.kept cF.o aY.o.ch (λb hb=>by omega);clear aY;go_wp2_with fail;obtain⟨bd,aR,aV⟩:=fg wr (w.heap.size+1) _ _ _ aW aq aN (.slice a1 Y d1) (.slice bq S.1.length aC) (.slice b7 k cM);have K:=fh wr (w.heap.size+1) (.slice a1 Y d1) (.slice bq S.1.length aC) (.slice b7 k cM);refine yay (v:=eX a1 Y d1 bq S.1.length aC b7 k cM) (by simp[results,results69,go_sem,bd,aR,aV]) rfl ⟨a1,d1,bq,S.1.length,aC,b7,cM,S.1,rfl,⟨?_,?_,?_⟩,?_,er.o.new K xaa⟩
    ·exact rh (fY cR.o K (λb hb=>hO (cS.o b hb))) (bK.o.2.1.len)
    ·exact Mp (fY ef.o K (λb hb=>hO (eI ef.o hb))) rfl bA.o
    ·rw[ae.o];have B:=fY di.o K (λb hb=>hO (eI di.o hb));rw[yao (by rw[kQ,HL.o.2];omega)]at B;exact rh B (by rw[kQ];exact HL.o.2)
    rw[ae.o];exact Lk.refl _):Zp:=h
theorem aM.qfg(h:Zp:=by
 have c7:V (∀o∈outs,0<=o/\o<ab):=λo h=>hO (ax o h)
 have HL:V (vs.length=ab/\outs.length=aa):=⟨cp,cA⟩
 have fq:V _:=ax;exact qbb):Zp:=h
open aM in
theorem NV(w N aD ad Y c1 ab c2 aa c3 ins vs outs)(f:GS w N Y aD ab ad aa ins vs outs)(b6:okG ins vs outs=true):
  Calls prog 69 #[eX N Y c1 aD ab c2 ad aa c3] w λe J=>SPo w Y aa ins (kE vs outs) e J:=by
 obtain⟨bC,eS,bn,bQ,br⟩:=info_parts rK;exact qff
end
section
attribute[local go_sem] eF eE eD
attribute[local go_sem ↓] Go.wp_at_zero Go.wp_at_succ
variable{n base d au l ab i:Nat}{b aD:Option Addr}{vs us:List Vl}{xs tq:List Int}{u1 u2 u3 aY:Value}
theorem Hc{W}(h:W.ownsRow base 40 6 (.slice b n d) n (fW vs))(ah:vs.length=n)(H):∃G,VZ W G b n vs/\(((Value.slice b n d).ownBlock=some G/\base<=G/\G<W.heap.size/\0<n)\/(n=0/\G=H)):=by
 rcases Nat.eq_zero_or_pos n with ai|ai
 ·exact⟨H,.inl ai,.inr ⟨ai,rfl⟩⟩
 obtain⟨g,c,e,B,U,_,a2⟩:=mb h ai ah;cases e;exact⟨g,.inr ⟨rfl,a2⟩,.inl ⟨rfl,B,U,ai⟩⟩
theorem NW{W}(h:W.ownsRow base 3 1 (.slice b n d) n (xs.map (Value.int .i64)))(ah:xs.length=n)(H):∃G,IZ W G b n xs/\(((Value.slice b n d).ownBlock=some G/\base<=G/\G<W.heap.size/\0<n)\/(n=0/\G=H)):=by
 rcases Nat.eq_zero_or_pos n with ai|ai
 ·exact⟨H,.inl ai,.inr ⟨ai,rfl⟩⟩
 rcases sO h ah with B|⟨g,rfl,U,q⟩
 ·omega
 exact⟨g,.inr ⟨rfl,q⟩,.inl ⟨rfl,U,q.lt,ai⟩⟩
theorem VZ.va{W G}(h:VZ W G b n vs)(hn:0<n):b=some ⟨G,0,none⟩/\VA W G n vs:=by
 rcases h with c|c
 ·omega
 exact c
theorem Kz{W}(h:W.ownsRow base 3 1 (.slice b n d) n (xs.map (Value.int .i64)))(ah:xs.length=n):IS W base W.heap.size b n xs:=by
 rcases sO h ah with ai|⟨g,e,hb,q⟩
 ·exact⟨ah,.inl ai⟩
 exact⟨ah,.inr ⟨g,0,e,hb,q.lt,q.lt,λk O=>by rw[Nat.zero_add];exact q.at_ k O⟩⟩
structure EI(W w4:World)(O G2 n2 base i:Nat)(u1 u2 u3 ev:Value)(b2:Option Addr)(us:List Vl)(tq:List Int):Prop where
 ob:RB W O u1 u2 u3
 va:VZ W G2 b2 n2 us
 own:W.ownsRow base 3 1 ev i (tq.map (Value.int .i64))
 tl:tq.length=i
 ch:Chg (λb=>b=G2\/base<=b) w4 W
 bz:base<=W.heap.size
theorem EI.put{W W2 bj au l ab base i u1 u2 u3 aY aD us o tq nv}(f:EI W bj au l ab base i u1 u2 u3 aY aD us tq)(k:Kept 0 0 W W2)(y:au≠l)(bl:l<base)(hi:i<ab)(aI:us.set i nv=o):EI (uf W2 l (i*6) nv) bj au l ab base i u1 u2 u3 aY aD o tq:=by
 have K:=oU W2 l (i*6) nv;have b0:Chg (λb=>b=l) _ _:=K.chg1 rfl;obtain⟨e,a2⟩:=f.va.va xaa;refine⟨(f.ob.keep k).keepC b0 y,.inr ⟨e,?_⟩,fI (eW f.own k) b0 (λb hb=>hO ((eI f.own hb).1)),f.tl,Chg.trans f.ch (Chg.trans k.chg (b0.mono λb _ c=>.inl c)),yan (yan f.bz k.size) K.size⟩;rw[<-aI];exact(a2.keep k yaa).step i hi _
theorem EI.stay{W W' bj}(f:EI W bj au l ab base i u1 u2 u3 aY aD us tq)(k:Kept 0 0 W W'):EI W' bj au l ab base i u1 u2 u3 aY aD us tq:=
 ⟨f.ob.keep k,f.va.keep k yaa,eW f.own k,f.tl,Chg.trans f.ch k.chg,yan f.bz k.size⟩
theorem EI.next{W be bj g9 cap9 x o}(f:EI W bj au l ab base i u1 u2 u3 aY aD us tq)(y:au<base)(bl:l<base\/ab=0)
  (aU:be.ownsRow base 3 1 (hE g9 (i+1) cap9) (i+1) (tq.map (Value.int .i64)++[hF x])) (aQ:(W.alloc o).grownBy be aY.ownBlock):EI be bj au l ab base (i+1) u1 u2 u3 (hE g9 (i+1) cap9) aD us (tq++[x]):=by
 have bE:=ez 0 0 W o;have aC:=gX aQ;have C:∀b,aY.ownBlock=some b->_:=λb hb=>(eI f.own hb).1
 have e:VZ be l aD ab us:=by
  rcases bl with c|c
  ·exact(f.va.keep bE yaa).keepC aC (λq=>hO (C _ q))
  exact .inl c
 refine⟨(f.ob.keep bE).keepC aC (λc=>hO (C _ c)),e,by rw[List.map_append];exact aU,by rw[yak,f.tl];rfl,Chg.trans f.ch (Chg.trans bE.chg (aC.mono λb _ c=>.inr (C b c))),?_⟩;have B:=f.bz;have U:=bE.size;have h3:=aC.size;omega
theorem DZ{A:List Vl}{v j}(h:j<A.length):(A.drop j).findIdx (fK · v)=if fK (A.getD j hK) v=true then 0 else (A.drop (j+1)).findIdx (fK · v)+1:=by
 rw[uE h,List.findIdx_cons];cases fK (A.getD j hK) v<;>rfl
theorem cK.qcq(h:Zp:=by
 rw[bz]at C;have HR:V _:=C;have HK:V _:=H.trans am;exact qfo):Zp:=h
theorem cK.qfg(h:Zp:=by
 have HE:V (∀i,i<=ab->_):=λi hi=>lO ins vs 1 i (λj hj=>aM j xaa);have c7:V (∀o∈outs,0<=o/\o<ab):=λo h=>hO (ax o h)
 have HL:V (vs.length=ab/\outs.length=aa/\ins.length=Y):=⟨cp,cA,cK⟩
 have cq:V (Kb vs):=f.v.lt;have H:=ez 0 0 w (eZ N Y c1 aD ab c2 ad aa c3);have am:=ez 0 0 (w.alloc (eZ N Y c1 aD ab c2 ad aa c3)) fE;have aH:V _:=(fO w (.slice N Y c1) (.slice aD ab c2) (.slice ad aa c3)).keep am;exact qcp):Zp:=h
theorem cK.qfp(h:Zp:=by
 have ae:V _:=qN ((w.alloc (eZ N Y c1 aD ab c2 ad aa c3)).alloc fE) N aD ad Y c1 ab c2 aa c3 ins vs outs (f.keep (H.trans am)) xaa xaa xaa;have bK:V (VS w 0 w.heap.size aD ab vs/\IS w 0 w.heap.size ad aa outs):=⟨f.v,f.o⟩
 clear f b6 ci cz ct aM ax cp cA cK C bz H am;obtain⟨_,bi,a5,p2⟩:=aH.o;go_enter func71,ntmps71;go_wp2_with fail;clear bi a5 p2;generalize (w.alloc (eZ N Y c1 aD ab c2 ad aa c3)).alloc fE=ag at aH HR HK a2 ae⊢;refine yai ae.o ?_;rintro e a8 ⟨a1,d1,Z,d2,a3,d3,rfl,bV,bO,cc,⟨ex,ey,ew⟩,aJ⟩;have cd:=ez 0 0 a8 (eZ a1 Y d1 Z ab d2 a3 aa d3);have bE:=aJ.size;obtain⟨l,bp,dg⟩:=Hc bO HL.o.1 (a8.heap.size+1);obtain⟨F,eA,cg⟩:=NW cc HL.o.2.1 (a8.heap.size+2)
 have eg:V (l≠F):=by
  show _≠_;intro c;rcases dg with q|q
  ·rcases cg with r|r
   ·exact ey l q.1 (hR c r.1)
   omega
  rcases cg with r|r<;>omega
 have cS:V (∀b,(Value.slice a1 Y d1).ownBlock=some b->(ag.heap.size<=b/\b<a8.heap.size)/\b≠l/\b≠F):=λb hb=>by
  have aw:=eI bV hb
  refine⟨aw,λc=>?_,λc=>?_⟩
  ·rcases dg with q|q
   ·exact ex l q.1 (hS c hb)
   ·omega
  ·rcases cg with q|q
   ·exact ew b hb (hR c q.1)
   ·omega
 have ak:V (ag.heap.size<=l/\(ab≠0->l<a8.heap.size)/\l≠a8.heap.size/\ag.heap.size<=F/\(aa≠0->F<a8.heap.size)/\F≠a8.heap.size/\(ab=0->a8.heap.size<l)):=⟨by omega,by omega,by omega,by omega,by omega,by omega,by omega⟩
 have cT:V (w.heap.size+1+1<=a8.heap.size/\(a8.alloc (eZ a1 Y d1 Z ab d2 a3 aa d3)).heap.size=a8.heap.size+1/\ag.heap.size=w.heap.size+1+1):=⟨hO a2.o,by simp,a2.o⟩
 have b3:V (EI (a8.alloc (eZ a1 Y d1 Z ab d2 a3 aa d3)) (a8.alloc (eZ a1 Y d1 Z ab d2 a3 aa d3)) a8.heap.size l ab (a8.heap.size+1) 0 (.slice a1 Y d1) (.slice Z ab d2) (.slice a3 aa d3) (.slice none 0 0) Z ((fA 1 vs 0).1++vs.drop 0) (fA 1 vs 0).2):=
  ⟨tP a8 _ _ _,bp.keep cd yaa,yav _ _ _ _,rfl,Chg.refl _ _,by simp⟩
 have ei:V _:=eW bV cd;have ep:V _:=eA.keep cd yaa;have bU:V _:=HK.o.trans (aJ.trans cd);have X:V _:=aH.o.keep (aJ.trans cd);have ah:V _:=HR.o.keep (aJ.trans cd);clear bV bO cc ex ey ew aJ cd bE bp dg eA cg ae aH HR HK a2;go_wp2_with fail;generalize a8.alloc (eZ a1 Y d1 Z ab d2 a3 aa d3)=bj at b3 ei ep bU X ah cT⊢;generalize a8.heap.size=au at b3 cS ak cT⊢;go_loopw [6,7] (λaY x W=>∃i:Nat,i<=ab/\x=hF i/\V (EI W bj au l ab (au+1) i (.slice a1 Y d1) (.slice Z ab d2) (.slice a3 aa d3) aY Z ((fA 1 vs i).1++vs.drop i) (fA 1 vs i).2)) (λ_ x _=>ab-(intOf x).toNat)
 case atStart=>exact⟨0,Nat.zero_le _,rfl,b3⟩
 case round=>
  obtain⟨i,hi,rfl,bn⟩:=hrel;clear b3;have cV:=bn.o.bz;have bJ:=cT.o;obtain⟨_,bi,a5,p2⟩:=G0.keepC X.o bn.o.ch (hO ak.o);by_cases aB:i<ab
  ·have t:=HE.o i xaa;have E1:=HE.o (i+1) aB;have cI:=ak.o;obtain⟨g,off,rfl,aQ,fl,_,bm⟩:=(VS.keepC (VS.keep bK.o.1 bU.o yaa) bn.o.ch (λg _ U=>by omega)).at_idx aB;have cn:=i8 (b1.o i aB);have cD:=se (b1.o i aB);have b7:=wv t (b1.o i aB);obtain⟨c9,aC,rfl⟩:=jd bn.o.own
   have aA:V _:=λW bS=>
    E5 W (vs.getD i hK) _ _ c9 i aC _ (rh (eW bn.o.own bS) t.l2) cD (λo h=>hO (cn o h))
   have co:∃c6,Z=some ⟨l,0,none⟩/\c6=0:=⟨0,(bn.o.va.va xaa).1,rfl⟩
   obtain⟨_,rfl,_⟩:=co;have p:=(bn.o.va.va xaa).2;have e5:=p.at_ i aB;have et:V _:=e5;have cJ:V _:=p;have en:V ((rnm (fA 1 vs i).2 (vs.getD i hK)).k<18446744073709551616):=Kb.at_ cq.o i;have eB:=B4 (v:=rnm (fA 1 vs i).2 (vs.getD i hK)) t.l1 (vs:=vs) (hR HL.o.1 aB);have cG:V (∀W2,Kept 0 0 wr W2->EI (uf W2 l (i*6) (rnm (fA 1 vs i).2 (vs.getD i hK))) bj au l ab (au+1) i (.slice a1 Y d1) (hE l ab d2) (.slice a3 aa d3) (.slice c9 i aC) (some ⟨l,0,none⟩) ((fA 1 vs (i+1)).1++vs.drop (i+1)) (fA 1 vs i).2):=λW2 bS=>bn.o.put bS xaa xaa aB eB;have cF:V ((fA 1 vs (i+1)).2=(fA 1 vs i).2++[gQ 1 (fA 1 vs i).1 (rnm (fA 1 vs i).2 (vs.getD i hK)) i]/\(fA 1 vs (i+1)).1=(fA 1 vs i).1++[rnm (fA 1 vs i).2 (vs.getD i hK)]):=⟨rfl,rfl⟩
   have cW:V ((fA 1 vs i).1.length=i/\Kb (fA 1 vs i).1/\Kb ((fA 1 vs (i+1)).1++vs.drop (i+1))):=⟨t.l1,mN cq.o 1 i,λv aM=>(List.mem_append.1 aM).elim (λc=>mN cq.o 1 (i+1) v c) (λc=>cq.o v (List.mem_of_mem_drop c))⟩
   have eS:V _:=λo h=>(b7 o h).1;generalize bC:rnm (fA 1 vs i).2 (vs.getD i hK)=nv at aA en cG cF eS;generalize cH:vs.getD i hK=v at bm aA;clear bC cH t E1 cn cD b7 eB;have dd:V _:=bn.o.ob;have eb:V _:=G0.keepC X.o bn.o.ch xaa;clear bn;obtain⟨bd,aR,aV,bY,ce,cl⟩:=bm;go_wp2_with fail;clear bd aR aV bY ce cl bi a5 p2;refine yai (aA.o wr (Kept.refl _ _ _)) ?_;rintro e ay ⟨rfl,(bk:V _)⟩;have ev:V _:=eb.o.keep bk.o;have fj:=bk.o.size;obtain⟨u0,u1,u2,u3,u4,u5⟩:=At.keep et.o cJ.o.lt bk.o yaa;have ee:=(VA.keep cJ.o bk.o yaa).free;obtain⟨_,a7,aK,aP,ea,ec,ed⟩:=dd.o.keep bk.o;clear dd eb;have e9:l≠ay.heap.size:=xaa;have ff:au≠ay.heap.size:=xaa;have fa:ay.heap.size≠l:=xaa;have fi:ay.heap.size≠au:=xaa;have fc:l<ay.heap.size:=xaa;generalize ((fA 1 vs i).1++vs.drop i).getD i hK=fm at u0 u1 u2 u3 u4 u5;go_upto_region 9 with fail;have K:Kept l (l+1) ay ((((((ay.setCell ⟨l,i*6,none⟩ (hF nv.op)).setCell ⟨l,i*6+1,none⟩ (hF nv.len)).setCell ⟨l,i*6+2,none⟩ (hF nv.a)).setCell ⟨l,i*6+3,none⟩ (hF nv.b)).setCell ⟨l,i*6+4,none⟩ (hF nv.c)).setCell ⟨l,i*6+5,none⟩ (.float .f64 nv.k)):=oU _ l (i*6) nv;have bX:=ez 0 0 ((((((ay.setCell ⟨l,i*6,none⟩ (hF nv.op)).setCell ⟨l,i*6+1,none⟩ (hF nv.len)).setCell ⟨l,i*6+2,none⟩ (hF nv.a)).setCell ⟨l,i*6+3,none⟩ (hF nv.b)).setCell ⟨l,i*6+4,none⟩ (hF nv.c)).setCell ⟨l,i*6+5,none⟩ (.float .f64 nv.k)) (eM nv.op nv.len nv.a nv.b nv.c nv.k);have b4:(((((((ay.setCell ⟨l,i*6,none⟩ (hF nv.op)).setCell ⟨l,i*6+1,none⟩ (hF nv.len)).setCell ⟨l,i*6+2,none⟩ (hF nv.a)).setCell ⟨l,i*6+3,none⟩ (hF nv.b)).setCell ⟨l,i*6+4,none⟩ (hF nv.c)).setCell ⟨l,i*6+5,none⟩ (.float .f64 nv.k))).heap.size=ay.heap.size:=by simp
   have b0:V _:=EI.stay (cG.o ay bk.o) bX;have ds:=me ((((((ay.setCell ⟨l,i*6,none⟩ (hF nv.op)).setCell ⟨l,i*6+1,none⟩ (hF nv.len)).setCell ⟨l,i*6+2,none⟩ (hF nv.a)).setCell ⟨l,i*6+3,none⟩ (hF nv.b)).setCell ⟨l,i*6+4,none⟩ (hF nv.c)).setCell ⟨l,i*6+5,none⟩ (.float .f64 nv.k)) nv;rw[b4]at ds;have cO:V _:=ds;have e1:V _:=(G0.keepT ev.o K xaa).keep bX;have dp:V (ay.heap.size<((((((((ay.setCell ⟨l,i*6,none⟩ (hF nv.op)).setCell ⟨l,i*6+1,none⟩ (hF nv.len)).setCell ⟨l,i*6+2,none⟩ (hF nv.a)).setCell ⟨l,i*6+3,none⟩ (hF nv.b)).setCell ⟨l,i*6+4,none⟩ (hF nv.c)).setCell ⟨l,i*6+5,none⟩ (.float .f64 nv.k)).alloc (eM nv.op nv.len nv.a nv.b nv.c nv.k))).heap.size):=by show _<_;simp
   clear ds b4 bX;generalize (((((((ay.setCell ⟨l,i*6,none⟩ (hF nv.op)).setCell ⟨l,i*6+1,none⟩ (hF nv.len)).setCell ⟨l,i*6+2,none⟩ (hF nv.a)).setCell ⟨l,i*6+3,none⟩ (hF nv.b)).setCell ⟨l,i*6+4,none⟩ (hF nv.c)).setCell ⟨l,i*6+5,none⟩ (.float .f64 nv.k)).alloc (eM nv.op nv.len nv.a nv.b nv.c nv.k))=bN at b0 cO e1 dp⊢;clear K u0 u1 u2 u3 u4 u5 ee a7 aK aP ea ec ed ev bk cG aA et cJ;have e3:V _:=(b0.o.va.va xaa).2;obtain⟨_,a7,aK,aP,ea,ec,ed⟩:=b0.o.ob;obtain⟨bI,bL,bM,cj,cx,cM⟩:=cO.o;simp only[Nat.zero_add]at bL bM cj cx cM;have aT:V (∀q,q<i->((fA 1 vs (i+1)).1++vs.drop (i+1)).getD q hK=(fA 1 vs i).1.getD q hK):=λq ao=>by rw[cF.o.2];exact Ks cW.o.1 ao
   have eC:V _:=b0.o.ob;go_wp2_with fail;go_loopw [9,10] (λs y W=>∃j:Nat,j<=i/\y=hF ((j:Int)-1)/\s=hF ((j+((fA 1 vs i).1.drop j).findIdx (fK · nv):Nat):Int)/\V (Kept 0 0 bN W)) (λ_ y _=>(intOf y+1).toNat)
   case atStart=>exact⟨i,yad,rfl,by rw[List.drop_of_length_le (hT cW.o.1)];rfl,Kept.refl _ _ _⟩
   case round=>
    obtain⟨j,hj,rfl,rfl,ar⟩:=hrel;by_cases bH:j=0
    ·subst bH
     have bu:V ((fA 1 vs (i+1)).2=(fA 1 vs i).2++[((0+((fA 1 vs i).1.drop 0).findIdx (fK · nv):Nat):Int)]):=by
      show _=_;rw[cF.o.1];unfold gQ;rw[hI (rfl:(1:Int)=1),List.drop_zero,Nat.zero_add]
     generalize ((0+((fA 1 vs i).1.drop 0).findIdx (fK · nv):Nat):Int)=bT at bu⊢;have aj:V _:=ar.o;clear ar;go_upto_region 19 with fail;have cB:V _:=EI.stay b0.o aj.o;have cu:=cB.o.bz;have cX:V _:=cB.o.own.alloc (.cells #[hF bT] 3);have bw:V _:=cell_one_new wr (hF bT) 3;go_wp2_with (first|(at_builtin;refine wpList_append_lies _ rfl _ _ 23 rfl (au+1) 3 b8 (hF 0) 1 8 underlying23 eT cN ej dv rfl xab _ _ _ (by rfl) cX.o ⟨wr.heap.size,0,none⟩ 1 1 [hF bT] (by rfl) rfl bw.o (by intro u aI;simp at aI;subst aI;rfl) xab (by unfold maxLen;omega) xaa yaf (wr.heap.size+1) xac ?_;intro g9 cap9 be bv a6 b9 ck));have R:V _:=EI.next cB.o yae (.inl xaa) bv a6;rw[<-bu.o]at R;clear bv a6 b9 ck;go_roundw;exact⟨i+1,by omega,by go_num,R⟩;simp[intOf];omega
    obtain⟨q,rfl⟩:∃q,j=q+1:=⟨j-1,by omega⟩
    have aU:((q+1:Nat):Int)-1=(q:Int):=xaa;rw[aU];have e6:V _:=aU;clear aU bH;have gb:q<ab:=xaa;have e0:q<i:=xaa;obtain⟨aW,aq,aN,bA,cw,cC⟩:=(VA.keep e3.o ar.o yaa).at_ q gb;rw[aT.o q e0]at aW aq aN bA cw cC;have HSV:V _:=λW=>CF W _ _ (Kb.at_ cW.o.2.1 q) en.o;have bZ:V _:=DZ (A:=(fA 1 vs i).1) (v:=nv) (j:=q) (hR cW.o.1 e0);generalize (fA 1 vs i).1.getD q hK=u at aW aq aN bA cw cC HSV bZ;generalize ((fA 1 vs i).1.drop (q+1)).findIdx (fK · nv)=b2 at bZ⊢;obtain⟨_,bo,az,aZ,bl,bG,bP⟩:=RB.keep eC.o ar.o;obtain⟨bR,aS,bb,bq,bD,bg⟩:=cO.o.keep dp.o ar.o yaa;simp only[Nat.zero_add]at aS bb bq bD bg;generalize aX:fK u nv=bF at HSV bZ;clear aX;go_wp2_with fail;go_region_with ((go_at_call 113;refine yai (HSV.o _) ?_;rintro e aG ⟨rfl,I⟩))
    all_goals
     have a9:V _:=ar.o.trans ((eG wr).trans I)
     clear I
     cases bF
     ·go_wp2
      go_roundw
      case rel=>exact⟨q,by omega,by first|rfl|go_num,by rw[bZ.o,hG xac];congr 1;omega,a9⟩
      case measure=>simp[intOf]<;>omega
     ·go_wp2
      go_roundw
      case rel=>exact⟨q,by omega,by first|rfl|go_num,by rw[bZ.o,hI rfl];rfl,a9⟩
      case measure=>simp[intOf]<;>omega
  obtain rfl:i=ab:=xaa;have cI:=ak.o;have af:=(HE.o i yad).l2;have a0:=(HE.o i yad).l1;obtain⟨c9,aC,rfl⟩:=jd bn.o.own
  have an:V (VZ wr l Z i (fA 1 vs i).1):=by
   have:=bn.o.va;exact xji
  have ek:V _:=fI ei.o bn.o.ch (λb hb=>hO (cS.o b hb))
  have cf:V (IZ wr F a3 aa outs):=by
   rcases Nat.eq_zero_or_pos aa with ai|ai
   ·exact .inl ai
   exact IZ.keepC ep.o bn.o.ch (hO eg.o)
  have bW:V _:=RB.keepC ah.o bn.o.ch xaa;have Q:V _:=G0.keepC X.o bn.o.ch xaa;have a9:V _:=Chg.kept bU.o bn.o.ch (λb hb=>by omega);have eu:V _:=bn.o.ob;have P:V _:=Kz bn.o.own af;have el:V _:=mN cq.o 1 i;have ca:V (eqM 1 vs outs=((fA 1 vs i).1,jO (fA 1 vs i).2 outs)):=by show _=_;unfold eqM;rw[HL.o.1]
  have ap:V ((fA 1 vs i).2.length=i/\(fA 1 vs i).1.length=i):=⟨af,a0⟩
  clear bn af a0;generalize (fA 1 vs i).2=tq at P ca ap;generalize (fA 1 vs i).1=us at an el ca ap;go_upto_region 21 with fail;obtain⟨aF,cQ⟩:∃aF,aF=wr:=⟨_,rfl⟩
  rw[<-cQ]at an ek cf bW Q a9 eu P;have e7:V (aF.heap.size=wr.heap.size/\au+1<=wr.heap.size):=⟨by rw[cQ],by omega⟩
  go_loopw [11] (λx W=>∃k:Nat,k<=aa/\x=hF k/\V (IZ W F a3 aa ((jO tq outs).take k++outs.drop k))/\V (Kept F (F+1) aF W)) (λx _=>aa-(intOf x).toNat)
  case atStart=>exact⟨0,Nat.zero_le _,rfl,by rw[cQ]at cf;simpa using cf,by rw[cQ];exact Kept.refl _ _ _⟩
  case round=>
   obtain⟨k,O,rfl,bx,ar⟩:=hrel;clear cf cQ;obtain⟨_,a7,aK,aP,ea,ec,ed⟩:=RB.keepC eu.o (ar.o.chg1 (S:=λb=>b=F) rfl) xaa;obtain⟨_,bi,a5,p2⟩:=G0.keepT Q.o ar.o xaa;by_cases aB:k<aa
   ·have cb:=c7.o _ (jw (xs:=outs) (q:=k) (hR HL.o.2.1 aB));obtain⟨fs,e2,al,rfl,aO,_,f5,cP⟩:=(IS.keep (IS.keep bK.o.2 a9.o yaa) ar.o (.inl xaa)).at_idx (o:=k) xaa xaa;obtain rfl:k=al:=xaa;rw[Int.toNat_natCast]at cP;obtain⟨aL,c8,bQ⟩:∃m:Nat,outs.getD k 0=m/\m<i:=⟨(outs.getD k 0).toNat,by omega,by omega⟩
    obtain⟨gt,fk,S,rfl,bh,B,_,cr⟩:=(IS.keep P.o ar.o (.inr (.inl xaa))).at_idx (o:=(aL:Int)) xaa xaa;obtain rfl:aL=S:=xaa;rw[Int.toNat_natCast]at cr;rw[c8]at cP;rcases bx.o with z|⟨rfl,ch⟩
    ·omega
    have br:=ch.at_ k aB;have cy:=ch.free k
    have R1:V (IZ (wr.setCell ⟨F,k,none⟩ (hF (tq.getD aL 0))) F (some ⟨F,0,none⟩) aa ((jO tq outs).take (k+1)++outs.drop (k+1))):=by
     have:=IBk.put ch k aB (tq.getD aL 0);have bB:=zt (tq:=tq) (outs:=outs) (k:=k) (hR HL.o.2.1 aB);rw[c8,Int.toNat_natCast]at bB;rw[bB]at this;exact .inr ⟨rfl,this⟩
    have R2:V _:=Kept.trans ar.o (eU (lo:=F) (hi:=F+1) wr ⟨F,k,none⟩ (hF (tq.getD aL 0)) yac);generalize tq.getD aL 0=x at cr R1 R2;generalize ((jO tq outs).take k++outs.drop k).getD k 0=d0 at br;clear bx ar ch cb c8;go_wp2_with fail;go_region
    all_goals
     go_wp2
     go_roundw;exact⟨k+1,by omega,by go_num,IZ.keep R1.o (eG _) yaa,Kept.drew R2.o⟩;simp[intOf];omega
   obtain rfl:k=aa:=xaa;obtain⟨_,aW,aq,aN,av,ba,bc⟩:=RB.keepC bW.o (ar.o.chg1 (S:=λb=>b=F) rfl) xaa
   have di:V (IZ wr F a3 k (jO tq outs)):=by
    have:=bx.o;rw[yao (by rw[kQ,HL.o.2.1];omega),List.drop_of_length_le (hT HL.o.2.1),List.append_nil]at this;exact this
   have cR:V _:=fY ek.o ar.o (λb hb=>hO (cS.o b hb));have ef:V _:=VZ.keep an.o ar.o (hO eg.o);have er:V _:=a9.o.new ar.o xaa;clear bx ar;go_wp2_with fail;obtain⟨bd,aR,aV⟩:=fg wr (w.heap.size+1) _ _ _ aW aq aN (.slice a1 Y d1) (.slice Z i d2) (.slice a3 k d3);have K:=fh wr (w.heap.size+1) (.slice a1 Y d1) (.slice Z i d2) (.slice a3 k d3);refine yay (v:=eX a1 Y d1 Z i d2 a3 k d3) (by simp[results,results71,go_sem,bd,aR,aV]) rfl ⟨a1,d1,Z,i,d2,a3,d3,us,rfl,⟨?_,?_,?_⟩,?_,er.o.new K xaa⟩
   ·exact rh (fY cR.o K (λb hb=>hO (cS.o b hb))) HL.o.2.2
   ·exact VZ.vs (VZ.keep ef.o K xaa) ap.o.2 el.o
   ·rw[ca.o];exact IZ.is (IZ.keep di.o K xaa) (by rw[kQ];exact HL.o.2.1)
   rw[ca.o];exact Lk.refl _):Zp:=h
open cK in
theorem D0(w N aD ad Y c1 ab c2 aa c3 ins vs outs)(f:GS w N Y aD ab ad aa ins vs outs)(b6:okG ins vs outs=true):
  Calls prog 71 #[eX N Y c1 aD ab c2 ad aa c3,hF 1] w λe J=>SPo w Y aa ins (eqM 1 vs outs) e J:=by
 exact qff
end
section
attribute[local go_sem] eF eE eD
variable{w ag:World}{lo hi Y n aa g k P ab b2 d1 c0 d2 d3 m1 s m3 af a0 aj:Nat}{a a1 Z a3 br u1 u2 u3:Option Addr}{ins outs:List Int}{vs us:List Vl}
theorem nH{aA o c u x}(ak:w.cell? ⟨g,k,none⟩=some (.slice a n c))(h:w.cell? ⟨aA,o,none⟩=some u)(aI:∀a n c,u≠.slice a n c):(w.setCell ⟨g,k,none⟩ x).cell? ⟨aA,o,none⟩=some u:=by
 by_cases e:g=aA/\k=o
 ·obtain⟨rfl,rfl⟩:=e;rw[ak]at h;exact absurd (hJ h).symm (aI _ _ _)
 rw[eN _ _ _ _ _ _ xaa];exact h
theorem IS.setSl{xs}(f:IS w lo hi a n xs)(ak:w.cell? ⟨g,k,none⟩=some (.slice br b2 c0))(x):IS (w.setCell ⟨g,k,none⟩ x) lo hi a n xs:=
 ⟨f.len,by
  rcases f.at_ with ai|⟨aA,off,e,B,U,h3,a6⟩
  ·exact .inl ai
  ·exact .inr ⟨_,_,e,B,U,by simpa using h3,λj hj=>nH ak (a6 j hj) (λ_ _ _ h=>by cases h)⟩⟩
theorem VS.setSl(f:VS w lo hi a n vs)(ak:w.cell? ⟨g,k,none⟩=some (.slice br b2 c0))(x):VS (w.setCell ⟨g,k,none⟩ x) lo hi a n vs:=
 ⟨f.len,f.lt,by
  rcases f.at_ with ai|⟨aA,off,e,B,U,h3,a6⟩
  ·exact .inl ai
  ·refine .inr ⟨_,_,e,B,U,by simpa using h3,λj hj=>?_⟩
   obtain⟨bw,d1,d2,d3,d4,d5⟩:=a6 j hj
   exact⟨nH ak bw (λ_ _ _ h=>by cases h),nH ak d1 (λ_ _ _ h=>by cases h),nH ak d2 (λ_ _ _ h=>by cases h),nH ak d3 (λ_ _ _ h=>by cases h),nH ak d4 (λ_ _ _ h=>by cases h),nH ak d5 (λ_ _ _ h=>by cases h)⟩⟩
theorem GS.setSl(f:GS w a1 Y Z ab a3 aa ins vs outs)(ak:w.cell? ⟨g,k,none⟩=some (.slice br b2 c0))(x):GS (w.setCell ⟨g,k,none⟩ x) a1 Y Z ab a3 aa ins vs outs:=
 ⟨by simpa using f.i.setSl ak x,by simpa using f.v.setSl ak x,by simpa using f.o.setSl ak x⟩
theorem GS.put3(f:GS w a1 Y Z ab a3 aa ins vs outs){d1 d2 d3}(ai:w.cell? ⟨P,0,none⟩=some (.slice d1 m1 af))(B:w.cell? ⟨P,1,none⟩=some (.slice d2 s a0))(U:w.cell? ⟨P,2,none⟩=some (.slice d3 m3 aj))(x y z):
  GS (((w.setCell ⟨P,0,none⟩ x).setCell ⟨P,1,none⟩ y).setCell ⟨P,2,none⟩ z) a1 Y Z ab a3 aa ins vs outs:=
 ((f.setSl ai x).setSl (by rw[eN _ _ _ _ _ _ (.inr xaa)];exact B) y).setSl (by rw[eN _ _ _ _ _ _ (.inr xaa),eN _ _ _ _ _ _ (.inr xaa)];exact U) z
theorem SPo.ret{W M}(ar:Kept 0 0 w W)(hP:w.heap.size<=P)(ai:ag.cell? ⟨P,0,none⟩=some (.slice u1 m1 af))(B:ag.cell? ⟨P,1,none⟩=some (.slice u2 s a0))(U:ag.cell? ⟨P,2,none⟩=some (.slice u3 m3 aj))(g:GS ag a1 Y Z ab a3 aa ins us M.2)(l:Lk us M.1)(an:Kept 0 0 W ag):
  SPo w Y aa ins M (.returned (eX a1 Y d1 Z ab d2 a3 aa d3)) (((ag.setCell ⟨P,0,none⟩ (.slice a1 Y d1)).setCell ⟨P,1,none⟩ (.slice Z ab d2)).setCell ⟨P,2,none⟩ (.slice a3 aa d3)):=
 ⟨a1,d1,Z,ab,d2,a3,d3,us,rfl,g.put3 ai B U _ _ _,l,(ar.trans an).new (fh ag P _ _ _) hP⟩
def SRo(w:World)(n1 n3:Nat)(ins:List Int)(M:List Vl×List Int)(e:Ending)(w':World):Prop:=
 ∃a1 d1 a2 n2 d2 a3 d3 us,e=.returned (.tuple #[eX a1 n1 d1 a2 n2 d2 a3 n3 d3,.int .i64 0])/\GS w' a1 n1 a2 n2 a3 n3 ins us M.2/\Lk us M.1/\Kept 0 0 w w'
theorem SRo.ret{W M}(ar:Kept 0 0 w W)(hP:w.heap.size<=P)(ai:ag.cell? ⟨P,0,none⟩=some (.slice u1 m1 af))(B:ag.cell? ⟨P,1,none⟩=some (.slice u2 s a0))(U:ag.cell? ⟨P,2,none⟩=some (.slice u3 m3 aj))(g:GS ag a1 Y Z ab a3 aa ins us M.2)(l:Lk us M.1)(an:Kept 0 0 W ag):
  SRo w Y aa ins M (.returned (.tuple #[eX a1 Y d1 Z ab d2 a3 aa d3,hF 0])) (((ag.setCell ⟨P,0,none⟩ (.slice a1 Y d1)).setCell ⟨P,1,none⟩ (.slice Z ab d2)).setCell ⟨P,2,none⟩ (.slice a3 aa d3)):=
 ⟨a1,d1,Z,ab,d2,a3,d3,us,rfl,g.put3 ai B U _ _ _,l,(ar.trans an).new (fh ag P _ _ _) hP⟩
theorem zC(w lo hi a m b0 aT)(f:IS w lo hi a m aT)(aw:m<=50):
  Calls prog 19 #[.slice a m b0] w λe J=>(∃r:Int,e=.returned (hF r)/\(decide (0<=r))=!(aT.all (fN · 5)))/\Kept 0 0 w J:=by
 have HL:V _:=f.len;have aL:V _:=f;clear f;go_enter func19,ntmps19;go_wp2_with fail;go_loopw [3] (λx W=>∃k:Nat,k<=m/\x=hF k/\V ((aT.take k).all (fN · 5)=true)/\V (Kept 0 0 w W)) (λx _=>m-(intOf x).toNat)
 case atStart=>exact⟨0,Nat.zero_le _,rfl,rfl,Kept.refl _ _ _⟩
 case round=>
  obtain⟨k,O,rfl,a2,ar⟩:=hrel;by_cases aB:k<m
  ·have h:k<aT.length:=by rw[HL.o];exact aB
   obtain⟨g,off,al,rfl,aO,_,_,cP⟩:=(IS.keep aL.o ar.o yaa).at_idx (o:=k) xaa xaa;obtain rfl:k=al:=xaa;rw[Int.toNat_natCast]at cP
   have R1:V (fN (aT.getD k 0) 5=true->(aT.take _).all _=true):=λt=>by
    rw[yat h,List.all_append,a2.o]
    rw[yah,yal h]at t
    simpa using t
   have ed:V (fN _ 5=false->aT.all (fN · 5)=false):=λt=>by
    refine List.all_eq_false.2 ⟨_,jw h,by rw[t];simp⟩
   generalize aT.getD k 0=p at cP R1 ed;clear a2;by_cases hn:p<0
   ·exact xhk
   by_cases a6:4<p
   ·exact xhk
   have R:V _:=R1.o (decide_eq_true xaa);clear ed R1;go_wp2;go_roundw;exact⟨k+1,by omega,by go_num,R,ar⟩;simp[intOf];omega
  obtain rfl:k=m:=xaa
  have R:V (aT.all (fN · 5)=true):=by
   exact xgp
  clear a2;go_wp2;go_ret;exact⟨⟨_,rfl,hU R.o⟩,ar.o⟩
structure LA(W w:World)(O R:Nat)(a1:Option Addr)(n1 d1:Nat)(a2:Option Addr)(n2 d2:Nat)(a3:Option Addr)(n3 d3:Nat)(ins:List Int)(us:List Vl)(M:List Vl×List Int):Prop where
 ob:RB W O (.slice a1 n1 d1) (.slice a2 n2 d2) (.slice a3 n3 d3)
 res:RB W R (.slice none 0 0) (.slice none 0 0) (.slice none 0 0)
 gs:GS W a1 n1 a2 n2 a3 n3 ins us M.2
 lk:Lk us M.1
 ke:Kept 0 0 w W
theorem RB.keepT{W W' p l h a9 N aD}(t:RB W p a9 N aD)(k:Kept l h W W')(G:p<l\/h<=p):RB W' p a9 N aD:=by
 have e:∀o,W'.cell? ⟨p,o,none⟩=W.cell? ⟨p,o,none⟩:=λo=>k.cell (p:=⟨p,o,none⟩) t.sz (by simp only;omega);have a0:∀o,W'.frozen? ⟨p,o,none⟩=W.frozen? ⟨p,o,none⟩:=λo=>k.frozen (p:=⟨p,o,none⟩) t.sz (by simp only;omega);exact⟨yaj t.sz k.size,hR e t.q0,hR e t.q1,hR e t.q2,hR a0 t.f0,hR a0 t.f1,hR a0 t.f2⟩
theorem LA.put{bn w au R u0 u1 u2 aL m1 s bg af a0 a1 Z a3 Y d1 ab d2 aa d3 ins us M}(bB:RB bn au (.slice u0 aL bg) (.slice u1 m1 af) (.slice u2 s a0))(e:RB bn R (.slice none 0 0) (.slice none 0 0) (.slice none 0 0))(g:GS bn a1 Y Z ab a3 aa ins us M.2)(l:Lk us M.1)(f:Kept 0 0 w bn)(y:w.heap.size<=au)(C:au≠R):
  LA (((bn.setCell ⟨au,0,none⟩ (.slice a1 Y d1)).setCell ⟨au,1,none⟩ (.slice Z ab d2)).setCell ⟨au,2,none⟩ (.slice a3 aa d3)) w au R a1 Y d1 Z ab d2 a3 aa d3 ins us M:=by
 obtain⟨bd,aR,aV⟩:=fg bn au _ _ _ bB.q0 bB.q1 bB.q2 (.slice a1 Y d1) (.slice Z ab d2) (.slice a3 aa d3);have K:=fh bn au (.slice a1 Y d1) (.slice Z ab d2) (.slice a3 aa d3);exact⟨⟨yaj bB.sz K.size,bd,aR,aV,by simp[bB.f0],by simp[bB.f1],by simp[bB.f2]⟩,e.keepT K xaa,g.put3 bB.q0 bB.q1 bB.q2 _ _ _,l,f.new K y⟩
theorem bS.qcc(h:Zp:=by
 have bw:V _:=bB;have HO:V _:=b6;clear ar bB f b6;rcases aF with rfl|rfl
 ·have bu:V _:=NV _ _ _ _ _ c1 _ c2 _ c3 _ _ _ aL.o HO.o;rw[AX]at bu;exact xcw
 have bu:V _:=D0 _ _ _ _ _ c1 _ c2 _ c3 _ _ _ aL.o HO.o;rw[AY]at bu;exact xcw):Zp:=h
open bS in
theorem KA(w N aD ad Y c1 ab c2 aa c3 p ins vs outs)(f:GS w N Y aD ab ad aa ins vs outs)(b6:okG ins vs outs=true)(aF:p=0\/p=1):
  Calls prog 46 #[eX N Y c1 aD ab c2 ad aa c3,hF p] w λe J=>SPo w Y aa ins (gl p vs outs) e J:=by
 have ar:=(ez 0 0 w (eZ N Y c1 aD ab c2 ad aa c3)).trans (ez 0 0 _ fE);have aL:V _:=f.keep ar;have HK:V _:=ar;exact qcb
theorem cL.qcq(h:Zp:=by
 rw[bz]at C;have HR:V _:=C;have HK:V _:=H.trans am;have ae:V _:=qN _ _ _ _ _ c1 _ c2 _ c3 _ _ _ (f.keep (H.trans am)) xaa xaa xaa;have ah:V _:=aF;clear f b6 ci cz ct cp cA cK C bz H am aF i;obtain⟨_,bi,a5,p2,_,_,_⟩:=aH.o;go_enter func20,ntmps20;go_wp2_with fail;clear bi a5 p2;generalize (w.alloc _).alloc _=ag at aH HR HK ae⊢;refine yai ae.o ?_;rintro e a8 ⟨a1,d1,Z,d2,a3,d3,rfl,bV,bO,cc,_,aJ⟩
 have aQ:GS a8 a1 Y Z ab a3 aa ins vs outs:=by
  obtain⟨l,bp,_⟩:=Hc bO HL.o.1 0;exact⟨rh bV HL.o.2.2.1,VZ.vs bp HL.o.1 aX.o,rh cc HL.o.2.1⟩
 have ch:V _:=aH.o.keep aJ;have r:V _:=LA.put (d1:=d1) (d2:=d2) (d3:=d3) (M:=tS _ _ aT 0) ch.o (HR.o.keep aJ) aQ (Lk.refl _) (HK.o.trans aJ) yad xaa;obtain⟨_,bi,a5,p2,bH,f1,f2⟩:=ch.o;clear bV bO cc aQ aJ ae aH HR HK;go_upto_region 3 with fail;clear bi a5 p2 bH f1 f2 ch;generalize ((a8.setCell _ _).setCell _ _).setCell _ _=bj at r⊢;go_loopw [5] (λx W=>∃(k:Nat) (a1:Option Addr) (d1:Nat) (Z:Option Addr) (ab d2:Nat) (a3:Option Addr) (d3:Nat) (us:List Vl),k<=m/\x=hF k/\V (LA W w w.heap.size (w.heap.size+1) a1 Y d1 Z ab d2 a3 aa d3 ins us (tS vs outs aT k))) (λx _=>m-(intOf x).toNat)
 case atStart=>exact⟨0,_,_,_,_,_,_,_,_,Nat.zero_le _,rfl,r⟩
 case round=>
  clear r;obtain⟨k,a1,d1,Z,ab,d2,a3,d3,us,O,rfl,bn⟩:=hrel;obtain⟨_,bi,a5,p2,bH,f1,f2⟩:=bn.o.ob;by_cases aB:k<m
  ·obtain⟨cJ,op,al,rfl,aO,_,_,bX⟩:=(IS.keep ah.o bn.o.ke yaa).at_idx (o:=k) xaa xaa;obtain rfl:k=al:=xaa;rw[Int.toNat_natCast]at bX;have bK:=z.o k aB;have j:V (okG ins us (tS vs outs aT k).2=true):=by show _=_;rw[bn.o.lk.okG];exact cH.o k
   have u:V (∀W,Kept 0 0 _ W->Calls _ _ _ W λe J=>SPo W _ _ _ (tS _ _ _ (k+1)) e _):=λW bS=>(KA W _ _ _ _ d1 _ d2 _ d3 _ _ _ _ (bn.o.gs.keep bS) j.o bK).mono λe J h=>by
    obtain⟨aK,af,aP,s,a0,b3,aj,o,B,U,h3,a6⟩:=h
    have q:=xK (outs:=(tS vs outs aT k).2) (aT.getD k 0) bn.o.lk
    exact⟨_,_,_,_,_,_,_,_,B,by rw[q.2]at U;exact U,h3.trans q.1,a6⟩
   have co:V (∀W,Kept 0 0 _ W->RB W _ _ _ _/\RB W _ _ _ _/\Kept 0 0 w W):=λW bS=>⟨bn.o.ob.keep bS,bn.o.res.keep bS,bn.o.ke.trans bS⟩
   generalize aT.getD k 0=p at bX u;clear bn bK j;go_wp2_with fail;go_region_with ((go_at_call 46;refine yai (u.o _ (eG _)) ?_;rintro e b4 ⟨aK,af,aP,s,a0,b3,aj,o,rfl,aS,bb,bq⟩;obtain⟨v,y,t⟩:=co.o _ ((eG _).trans bq);have R:V _:=LA.put (d1:=af) (d2:=a0) (d3:=aj) v y aS bb t yad xaa;obtain⟨_,b8,Q,bh,ai,B,U⟩:=v;clear aS bb bq y t))
   all_goals
    go_wp2
    go_roundw;exact⟨k+1,aK,af,aP,s,a0,b3,aj,o,by omega,by go_num,R⟩;simp[intOf];omega
  obtain rfl:k=m:=xaa;have ak:V _:=bn.o;obtain⟨_,aW,aq,aN,av,ba,bc⟩:=bn.o.res;clear bn;go_wp2_with fail;obtain⟨bd,aR,aV⟩:=fg _ _ _ _ _ aW aq aN (.slice a1 Y d1) (.slice Z ab d2) (.slice a3 aa d3);refine yay (v:=eX a1 Y d1 Z ab d2 a3 aa d3) (by simp[results,results20,go_sem,bd,aR,aV]) rfl (SPo.ret (w:=w) ak.o.ke xaa aW aq aN ak.o.gs ak.o.lk (Kept.refl _ _ _))):Zp:=h
open cL in
theorem NX(w N aD ad Y c1 ab c2 aa c3 ap ao bJ m b0 ins vs outs aT)(f:GS w N Y aD ab ad aa ins vs outs)(b6:okG ins vs outs=true)(aF:IS w ap ao bJ m aT)(aw:m<=50)(i:∀k,k<m->aT.getD k 0=0\/aT.getD k 0=1):
  Calls prog 20 #[eX N Y c1 aD ab c2 ad aa c3,.slice bJ m b0] w λe J=>SPo w Y aa ins (tS vs outs aT m) e J:=by
 obtain⟨⟨ci,cz,ct⟩,_,_,_,_⟩:=gM b6;have cp:=f.v.len;have cA:=f.o.len;have cK:=f.i.len;have HL:V (vs.length=ab/\outs.length=aa/\ins.length=Y/\aT.length=m):=⟨cp,cA,cK,aF.len⟩
 have aX:V (Kb _):=f.v.lt;have cH:V _:=B8 aT b6;have z:V _:=i;have H:=ez 0 0 w (eZ N Y c1 aD ab c2 ad aa c3);have am:=ez 0 0 (w.alloc (eZ N Y c1 aD ab c2 ad aa c3)) fE;have aH:V _:=(tP w _ _ _).keep am;exact qcp
theorem bT.qcc(h:Zp:=by
 have bw:V _:=bB;have aH:V _:=(fO w (.slice N Y c1) (.slice aD ab c2) (.slice ad aa c3)).keep (ez 0 0 _ fE);have aI:¬50<(m:Int):=xaa
 have bU:V (∀W,Kept 0 0 w W->Calls _ _ _ W λe J=>(∃r:Int,e=.returned _/\¬0<=r)/\Kept 0 0 W _):=λW bS=>(zC W _ _ _ m b0 _ (aF.keep bS yaa) aw).mono λe J h=>by
  obtain⟨⟨r,B,U⟩,h3⟩:=h
  rw[i]at U
  exact⟨⟨r,B,of_decide_eq_false U⟩,h3⟩
 clear ar h f bB aF i al;go_enter func6,ntmps6;go_wp2_with fail;refine yai bu.o ?_;rintro e aG ⟨rfl,am⟩;go_wp2_with fail;refine yai (bU.o _ (Kept.trans HK.o am)) ?_;rintro e ag ⟨⟨r,rfl,av⟩,j⟩;have an:=Kept.trans am j;obtain⟨_,bi,a5,p2⟩:=G0.keep aH.o an;have bN:V _:=Kept.trans HK.o an;have S:V _:=RB.keep bw.o an;clear an am j bu bw HK aH;go_wp2_with fail;refine yai (aQ.o _ bN.o) ?_;rintro e a8 ⟨a1,d1,Z,s,d2,a3,d3,us,rfl,ay,cu,aJ⟩;obtain⟨_,a7,aK,aP,bH,f1,f2⟩:=RB.keep S.o aJ;obtain⟨bd,aR,aV⟩:=fg _ _ _ _ _ a7 aK aP (.slice a1 Y d1) (.slice Z s d2) (.slice a3 aa d3);have R:V _:=SRo.ret (d1:=d1) (d2:=d2) (d3:=d3) bN.o (by omega:w.heap.size<=w.heap.size+1) a7 aK aP ay cu aJ;clear ay cu aJ bi a5 p2;go_wp2_with fail;refine yay (v:=.tuple #[eX a1 Y d1 Z s d2 a3 aa d3,hF 0]) (by simp[results,results6,go_sem,bd,aR,aV]) rfl R.o):Zp:=h
open bT in
theorem Hd(w N aD ad Y c1 ab c2 aa c3 bJ m b0 ins vs outs)(f:GS w N Y aD ab ad aa ins vs outs)(h:okG ins vs outs=true)(lo hi aT)(aF:IS w lo hi bJ m aT)(aw:m<=50)(i:aT.all (fN · 5)=true)(al:∀k,k<m->aT.getD k 0=0\/aT.getD k 0=1):
  Calls prog 6 #[eX N Y c1 aD ab c2 ad aa c3,.slice bJ m b0] w λe J=>SRo w Y aa ins (tS vs outs aT m) e J:=by
 have ar:=(ez 0 0 w (eZ N Y c1 aD ab c2 ad aa c3)).trans (ez 0 0 _ fE);have bu:V _:=re _ _ _ _ _ c1 _ c2 _ c3 _ _ _ (f.keep ar);rw[h]at bu;have aQ:V _:=λW bS=>NX W _ _ _ _ c1 _ c2 _ c3 _ _ _ m b0 _ _ _ _ (f.keep bS) h (aF.keep bS yaa) aw al;have HK:V _:=ar;exact qcb
