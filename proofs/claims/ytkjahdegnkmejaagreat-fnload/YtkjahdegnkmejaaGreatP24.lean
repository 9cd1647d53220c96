import Derived.Test.YtkjahdegnkmejaaGreatP22
namespace Go.Proofs.Z
variable{Zp:Prop}
open Tryz
set_option maxRecDepth 1000000
set_option maxHeartbeats 0
section
open Go.RowKit Flt
theorem CR{ins vs i}(h:okV ins vs i=true)(hi:i<=2000)(ag:ins.length<=20)(a6:∀j,j<i->lenB (vs.getD j i0).len=true):
  (0<=(vs.getD i i0).op/\(vs.getD i i0).op<=13)/\(0<=(vs.getD i i0).len/\(vs.getD i i0).len<=2000)/\(0<=(vs.getD i i0).a/\(vs.getD i i0).a<=2000)/\(0<=(vs.getD i i0).b/\(vs.getD i i0).b<=2000)/\(0<=(vs.getD i i0).c/\(vs.getD i i0).c<=2000):=by
 have co:=rW h;have bQ:=of_decide_eq_true (sQ h);have S:=rT h;have bl:1<=cnt _->_:=λc=>S _ (rU c);have aZ:2<=cnt _->_:=λc=>S _ (wk c);have bn:3<=cnt _->_:=λc=>S _ (wm c);unfold okV at h;generalize aL:vs.getD i _=v at*;rw[Bool.and_eq_true,Bool.and_eq_true]at h;obtain⟨⟨_,K⟩,d⟩:=h
 have b:cnt v.op<1->v.op≠0->v.a=0:=λc c0=>by
  unfold fL at K
  by_cases e:v.a=0
  ·exact e
  ·simp[c,c0,e]at K
 have f:cnt v.op<2->v.b=0:=λc=>by
  unfold fL at K
  by_cases e:v.b=0
  ·exact e
  ·simp[c,e]at K
 have c8:cnt v.op<3->gH v.op=false->v.c=0:=λc ce=>by
  unfold fL at K
  by_cases e:v.c=0
  ·exact e
  ·simp[c,ce,e]at K
 have g:v.op=0->_:=λc=>by
  rw[iv c,Bool.and_eq_true]at d
  exact of_decide_eq_true d.1
 have cX:gH v.op=true->0<=v.c/\v.c<=1000:=λc=>by
  have aA:=of_decide_eq_true c
  rw[ip xaa,Bool.and_eq_true]at d
  have aw:=d.2
  unfold eV at aw
  have c1:cnt v.op=1:=by rcases aA with e|e<;>rw[e]<;>decide
  have aB:=bl xaa
  have ax:=of_decide_eq_true (a6 v.a.toNat xaa)
  have bB:((fp v).map λo=>(vs.getD o.toNat i0).len).getD 0 0=(vs.getD v.a.toNat i0).len:=by
   unfold fp
   rw[c1]
   rfl
  rcases aA with e|e
  ·rw[ip xaa,ip xaa,iv e,Bool.and_eq_true,bB]at aw
   have:=of_decide_eq_true aw.2
   omega
  ·rw[ip xaa,ip xaa,ip xaa,iv e,Bool.and_eq_true]at aw
   have:=of_decide_eq_true aw.2
   omega
 refine⟨co,by omega,?_,?_,?_⟩
 ·by_cases c:1<=cnt v.op
  ·have:=bl c;omega
  by_cases c0:v.op=0
  ·have:=g c0;omega
  have:=b xaa c0;omega
 ·by_cases c:2<=cnt v.op
  ·have:=aZ c;omega
  have:=f xaa;omega
 by_cases c:3<=cnt v.op
 ·have:=bn c;omega
 cases aA:gH v.op
 ·have:=c8 xaa aA;omega
 have:=cX aA;omega
def one(xss:List (List Nat))(v:Vl)(Vs:List (List Nat)):List Nat:=
 if v.op=0 then xss.getD v.a.toNat [] else
  P6 v.op v.len v.c v.k (if 0<cnt v.op then Vs.getD v.a.toNat [] else[]) (if 1<cnt v.op then Vs.getD v.b.toNat [] else[]) (if 2<cnt v.op then Vs.getD v.c.toNat [] else[])
end
section
open Go.RowKit Flt Ieee
abbrev vd(vs:List Vl)(i:Nat):Vl:=vs.getD i i0
end
section
open Go.RowKit Flt
attribute[local go_sem] eE eC eB
variable{I P n cap i Q:Nat}{a:Option Addr}{bs ins outs:List Int}{u1 u2 u3:Value}{vs:List Vl}
abbrev iM:Value:=.slice none 0 0
structure GrS(W:World)(B P:Nat)(a:Option Addr)(n cap i:Nat)(bs:List Int)(Q:Nat)(u1 u2 u3:Value)(ins:List Int)(vs:List Vl)(outs:List Int):Prop where
 rd:RdF W P a n cap i bs
 dg:DG W B u1 u2 u3 ins vs outs
 bx:RB W Q u1 u2 u3
 rs:RB W (Q+1) iM iM iM
 pb:P<B
 bq:B<=Q
 far:∀b,u1.ownBlock=some b\/u2.ownBlock=some b\/u3.ownBlock=some b->b<Q
theorem GrS.step{W F ab}(f:GrS W I P a n cap i bs Q u1 u2 u3 ins vs outs)(X:RdF F P a n cap ab bs)(k:Kept P (P+1) W F):GrS F I P a n cap ab bs Q u1 u2 u3 ins vs outs:=
 ⟨X,f.dg.kept k (i4 f.pb),f.bx.kept k (jj f.pb f.bq),f.rs.kept k (jj f.pb f.bq),f.pb,f.bq,f.far⟩
theorem GrS.keep{W F}(f:GrS W I P a n cap i bs Q u1 u2 u3 ins vs outs)(k:Kept 0 0 W F):GrS F I P a n cap i bs Q u1 u2 u3 ins vs outs:=f.step (f.rd.keep0 k) (eZ k)
theorem GrS.next{W}(f:GrS W I P a n cap i bs Q u1 u2 u3 ins vs outs):
  Calls prog 11 #[ge P] W λe F=>e=.returned (ih (nv bs i:Int))/\GrS F I P a n cap (ni bs i) bs Q u1 u2 u3 ins vs outs/\Kept P (P+1) W F:=
 (iD W P a n cap i bs f.rd).mono λ_ _ q=>⟨q.1,f.step q.2.1 q.2.2.1,q.2.2.1⟩
theorem GrS.start{w}(f:DG w I u1 u2 u3 ins vs outs)(X:RdF w P a n cap i bs)(hP:P<I):
  GrS ((w.alloc (.cells #[u1,u2,u3] 73)).alloc fO) I P a n cap i bs w.heap.size u1 u2 u3 ins vs outs/\Kept 0 0 w ((w.alloc (.cells #[u1,u2,u3] 73)).alloc fO):=by
 have ap:=eA 0 0 w (.cells #[u1,u2,u3] 73);have aC:=eA 0 0 (w.alloc (.cells #[u1,u2,u3] 73)) fO;have hb:=rZ (S:=λ_=>False) w _ #[u1,u2,u3] 73 (aC.chg) (λc=>c);have bL:=iU (w.alloc (.cells #[u1,u2,u3] 73));rw[show(w.alloc (.cells #[u1,u2,u3] 73)).heap.size=w.heap.size+1 by simp]at bL;refine⟨⟨X.keep0 (ap.trans aC),f.keep (ap.trans aC),⟨hb.2.2,hb.1 0,hb.1 1,hb.1 2,hb.2.1 0,hb.2.1 1,hb.2.1 2⟩,bL,hP,f.sz,?_⟩,ap.trans aC⟩;rintro b (c|c|c)
 ·exact(eF f.r1 c).2
 ·exact(eF f.r2 c).2
 exact(eF f.r3 c).2
def fbz(k:Nat):Nat:=if k=0 then 0 else fb k
theorem tA(k):fbz k=fb k:=by
 unfold fbz;split
 ·rename_i h;rw[h];exact fb_zero.symm
 rfl
def sv(v:Vl):Vl:=⟨v.op,v.len,v.a,v.b,v.c,fbz v.k⟩
def GwO(w:World)(B P:Nat)(a:Option Addr)(n cap i:Nat)(bs:List Int)(u1 u2 u3:Value)(ins:List Int)(vs:List Vl)(outs:List Int)(v0:Vl)(e:Ending)(w':World):Prop:=
 ∃v g' cap',e=.returned (.agg #[u1,.slice (some ⟨g',0,none⟩) (vs.length+1) cap',u3])/\sv v=v0/\DG w' B u1 (.slice (some ⟨g',0,none⟩) (vs.length+1) cap') u3 ins (vs++[v]) outs/\RdF w' P a n cap i bs/\Chg (λb=>b=P\/u2.ownBlock=some b) w w'/\(u2.ownBlock=some g'\/w.heap.size<=g')
theorem GrS.put{w W aq I P a n cap i bs a1 K a3 Y c1 c2 aa c3 ins vs outs}(f:GrS W I P a n cap i bs w.heap.size (.slice a1 Y c1) (.slice K vs.length c2) (.slice a3 aa c3) ins vs outs)(S:Kept P (P+1) w W)(k:Kept 0 0 W aq)(v)(aL:v.k<18446744073709551616)(hn:vs.length<=100000):
  Calls prog 59 #[eX a1 Y c1 K vs.length c2 a3 aa c3,v.agg] aq λe an=>∃aI cap',e=.returned (eX a1 Y c1 (some ⟨aI,0,none⟩) (vs.length+1) cap' a3 aa c3)/\RB an (w.heap.size+1) iM iM iM/\GwO w I P a n cap i bs (.slice a1 Y c1) (.slice K vs.length c2) (.slice a3 aa c3) ins vs outs (sv v) (.returned (eX a1 Y c1 (some ⟨aI,0,none⟩) (vs.length+1) cap' a3 aa c3)) (fk an (w.heap.size+1) (.slice a1 Y c1) (ia aI (vs.length+1) cap') (.slice a3 aa c3)):=by
 have f1:=f.keep k;have C:=f.pb;have B:=f.bq;have b9:=f1.dg.sz;refine(rm aq a1 K a3 Y c1 c2 aa c3 I vs v f1.dg.r2 b9 xaa).mono ?_;rintro e an ⟨aI,cap',rfl,bi,aw⟩;have d:∀b,(Value.slice K vs.length c2).ownBlock=some b->b<w.heap.size/\I<=b:=λb hb=>⟨f.far b (.inr (.inl hb)),(eF f1.dg.r2 hb).1⟩
 have t:(Value.slice K vs.length c2).ownBlock=some aI\/aq.heap.size<=aI:=by
  exact xej
 have aj:w.heap.size+1<aq.heap.size:=f1.rs.sz
 have l:aI≠w.heap.size+1:=by
  rcases t with c|c
  ·have:=(d _ c).1;omega
  omega
 have ad:∀o,an.cell? ⟨w.heap.size+1,o,none⟩=aq.cell? ⟨w.heap.size+1,o,none⟩:=λo=>aw.chg.cell (p:=⟨w.heap.size+1,o,none⟩) aj (by rintro (c|c);exact c;have bU:w.heap.size+1<w.heap.size:=(d _ c).1;omega);have be:∀o,an.frozen? ⟨w.heap.size+1,o,none⟩=aq.frozen? ⟨w.heap.size+1,o,none⟩:=λo=>aw.chg.frozen (p:=⟨w.heap.size+1,o,none⟩) aj (by rintro (c|c);exact c;have bU:w.heap.size+1<w.heap.size:=(d _ c).1;omega);have rs:=f1.rs;have aS:=fy an (w.heap.size+1) (.slice a1 Y c1) (ia aI (vs.length+1) cap') (.slice a3 aa c3);have h:∀{u:Value}{xs:List Value}{m e s:Nat},aq.ownsRow I e s u m xs->Apart (.slice K vs.length c2) u->an.ownsRow I e s u m xs:=λ{u xs m e s} o bp=>eQ o aw.chg (by rintro b hb (c|c);exact c;exact bp b c hb);have g:∀{W:World}{u:Value}{xs:List Value}{m e s:Nat}{x y z:Value},W.ownsRow I e s u m xs->u.ownBlock≠some (w.heap.size+1)->(fk W (w.heap.size+1) x y z).ownsRow I e s u m xs:=λo ae=>eH (eH (eH o ae) ae) ae;have j:Apart (.slice K vs.length c2) (.slice a1 Y c1):=λb hb ai=>f.dg.a12 b ai hb;refine⟨aI,cap',rfl,⟨yak aj aw.chg.size,jn ad rs.q0,jn ad rs.q1,jn ad rs.q2,jn be rs.f0,jn be rs.f1,jn be rs.f2⟩,v,aI,cap',rfl,rfl,⟨?_,?_,?_,?_,f.dg.a13,?_,?_,?_⟩,?_,?_,?_⟩
 ·exact g (h f1.dg.r1 j) (λc=>i4 (f.far _ (.inl c)))
 ·have ag:(vs++[v]).length=vs.length+1:=by simp
  rw[ag];exact g bi (λc=>l (by simpa[Value.ownBlock] using c))
 ·exact g (h f1.dg.r3 f.dg.a23) (λc=>by have:=f.far _ (.inr (.inr c));omega)
 ·intro b hb ai;have:b=aI:=by simpa[Value.ownBlock] using ai.symm
  subst this;rcases t with c|c
  ·exact f.dg.a12 _ hb c
  have:=f.far _ (.inl hb);omega
 ·intro b hb ai;have:b=aI:=by simpa[Value.ownBlock] using hb.symm
  subst this;rcases t with c|c
  ·exact f.dg.a23 _ c ai
  have:=f.far _ (.inr (.inr ai));omega
 ·intro u G;exact xdj
 ·exact yao b9 (yao aw.chg.size aS.size)
 ·have au:=mY f1.rd aw.chg (by rintro b (c|c);exact c.elim;have:=(d b c).2;omega);exact au.keep aS (.inl (i4 au.lt))
 ·have q:=yao S.size k.size;refine⟨aS.os.trans (aw.chg.os.trans (k.os.trans S.os)),aS.tape.trans (aw.chg.tape.trans (k.tape.trans S.tape)),aS.output.trans (aw.chg.output.trans (k.output.trans S.output)),yao q (yao aw.chg.size aS.size),λb hb hn=>?_⟩;refine(aS.block b (i4 aw.chg.size) xaa).trans ?_;rw[aw.chg.block b xaa (by rintro (c|c);exact c;exact hn (.inr c)),k.block b (i4 S.size) xaa];exact S.block b hb (λc=>hn (.inl xaa))
 rcases t with c|c
 ·exact .inl c
 exact .inr (jj S.size k.size)
end
section
open Go.RowKit Flt
theorem GrS.pick{W I P a n cap i bs Q a1 K a3 Y c1 c2 aa c3 ins vs outs}(f:GrS W I P a n cap i bs Q (.slice a1 Y c1) (.slice K vs.length c2) (.slice a3 aa c3) ins vs outs)(hn:vs.length<=100000)(q):
  Calls prog 81 #[eX a1 Y c1 K vs.length c2 a3 aa c3,ih q,ge P] W λe F=>e=.returned (ih (i9 vs q (nv bs i)))/\GrS F I P a n cap (ni bs i) bs Q (.slice a1 Y c1) (.slice K vs.length c2) (.slice a3 aa c3) ins vs outs/\Kept P (P+1) W F:=
 (Pf f.dg.r2 rfl hn f.rd f.pb q).mono λ_ _ h=>⟨h.1,f.step h.2.1 h.2.2,h.2.2⟩
end
section
open Go.RowKit Flt
attribute[local go_sem] eE eC eB
theorem aC.qaw(h:Zp:=by
 rcases Nat.eq_zero_or_pos ae with b5|b5
 case' inl=>have U:(ae:Int)<=0:=xaa
 case' inl=>clear b5
 case' inr=>have C:(nv bs i:Int)%16=0:=i4 b.o
 all_goals
  clear b
  rcases b1.o with⟨b8,aA⟩|⟨b8,cc,aA⟩
 case' inl.inl|inr.inl=>
  have cc:(Y:Int)<=0:=xaa;clear b8
 case' inl.inr|inr.inr=>
  have HO:V (¬(nv bs (ni bs i):Int)%2=1):=by show ¬_;omega
  clear cc;go_wp2_with fail;refine yaj aG.o.next ?_;rintro e bU ⟨rfl,h,aC⟩;replace HK:V _:=HK.o.trans aC;replace aG:V _:=h;clear h aC aU ax aF;have q:=HO.o
 all_goals
  rw[<-aA]at aG
  clear aA b1
  go_wp2_with fail
  refine yaj (Nk _ _ _ _ _ _ _ aG.o.rd) ?_
  rintro e bP ⟨z,rfl,j,g,cB,a5⟩
  have m:V (sv ⟨1,d,0,0,0,z⟩=⟨1,d,0,0,0,fb (dfV bs p)⟩):=by show _=_;rw[<-j,<-tA];rfl
  clear j
  replace HK:V _:=HK.o.trans a5
  replace aG:V _:=aG.o.step cB a5
  clear cB a5
  go_wp2_with fail
  refine yaj aG.o.next ?_
  rintro e ch ⟨rfl,B,b6⟩
  replace HK:V _:=HK.o.trans b6
  replace aG:V _:=B
  clear B b6
  have l:=da.o
  have b9:V _:=g
  clear g
  obtain⟨_,bX,aV,bg,_,_,_⟩:=aG.o.bx
  go_wp2_with fail
  refine yaj (aO.o _ _ ⟨1,d,0,0,0,z⟩ aG.o HK.o _ i3 b9.o) ?_
  rintro e an ⟨aI,cap',rfl,aK,ak⟩
  obtain⟨_,bo,ar,aQ,bR,bV,bW⟩:=aK
  go_wp2_with fail
  obtain⟨bm,aW,bd⟩:=fd an (w.heap.size+1) _ _ _ bo ar aQ (.slice a1 Y c1) (ia aI (ae+1) cap') (.slice a3 aa c3)
  exact yaz (v:=eX a1 Y c1 (some ⟨aI,0,none⟩) (ae+1) cap' a3 aa c3) (by simp[results,results62,go_sem,bm,aW,bd]) rfl (m.o ▸ ak)):Zp:=h
open aC in
theorem tC{w I P a n cap i bs a1 K a3 Y c1 c2 aa c3 ins vs outs}(f:DG w I (.slice a1 Y c1) (.slice K vs.length c2) (.slice a3 aa c3) ins vs outs)(X:RdF w P a n cap i bs)(hP:P<I)(hn:vs.length<=100000){p}(aA:(Y=0/\p=ni bs i)\/(0<Y/\nv bs (ni bs i)%2≠1/\p=ni bs (ni bs i)))(J:nv bs i%16=0\/vs.length=0):
  Calls prog 62 #[eX a1 Y c1 K vs.length c2 a3 aa c3,ge P] w (GwO w I P a n cap (ni bs (dfI bs p)) bs (.slice a1 Y c1) (.slice K vs.length c2) (.slice a3 aa c3) ins vs outs ⟨1,((1+nv bs (dfI bs p)%4:Nat):Int),0,0,0,fb (dfV bs p)⟩):=by
 have l:(1:Int)+(nv bs (dfI bs p):Int)%4=((1+nv bs (dfI bs p)%4:Nat):Int):=xaa;have af:=fD X.ys (dfI bs p);generalize 1+nv bs (dfI bs p)%4=d at l⊢;have da:V _:=l;have b1:V _:=aA;clear l aA;exact qav
end
section
open Go.RowKit Flt Ieee
variable{us r:List Vl}
theorem Np{q}(h:q<us.length):vd (us++r) q=vd us q:=by
 unfold vd;rw[yai,yat h,<-yai]
theorem Nq(q):vd (us++r) (us.length+q)=vd r q:=by
 unfold vd;rw[yai,yas xaa,Nat.add_sub_cancel_left,<-yai]
end
section
open Go.RowKit Flt
attribute[local go_sem] eE eC eB
theorem FW(op x y):cop op x y<18446744073709551616:=by
 unfold cop;cases h:floatBits op .f64 x y with
 |none=>decide
 |some r=>
  have:=floatBits_wf h;simpa[Lit.wf] using this
theorem xi(w R a6 U Y c1 ae c2 aa c3 ins vs outs)(f:GS w R Y a6 ae U aa ins vs outs)(cj:Y<=1000000)(cw:ae<=1000000)(cK:aa<=1000000):
  Calls prog 128 #[eX R Y c1 a6 ae c2 U aa c3] w λe O=>∃a1 aX K bk a3 ab,e=.returned (eX a1 Y aX K ae bk a3 aa ab)/\O.ownsRow w.heap.size 3 1 (.slice a1 Y aX) Y (ins.map (Value.int .i64))/\O.ownsRow w.heap.size 79 6 (.slice K ae bk) ae (fU vs)/\O.ownsRow w.heap.size 3 1 (.slice a3 aa ab) aa (outs.map (Value.int .i64))/\
   (Apart (.slice K ae bk) (.slice a1 Y aX)/\Apart (.slice K ae bk) (.slice a3 aa ab)/\Apart (.slice a1 Y aX) (.slice a3 aa ab))/\Kept 0 0 w O:=by
 obtain⟨bY,hi,cg,b8,cc⟩:=info_parts yo;have ap:=eA 0 0 w (fB R Y c1 a6 ae c2 U aa c3);have aC:=eA 0 0 (w.alloc (fB R Y c1 a6 ae c2 U aa c3)) fO;have ao:V _:=(ib w _ _ _).keep aC;have bL:=iU (w.alloc (fB R Y c1 a6 ae c2 U aa c3));rw[show(w.alloc _).heap.size=w.heap.size+1 by simp]at bL;have HR:V _:=bL;have HK:V _:=ap.trans aC;have cH:V _:=f.i.keep (ap.trans aC) yaa;have j:V _:=f.v.keep (ap.trans aC) yaa;have u:V _:=f.o.keep (ap.trans aC) yaa;clear f bL ap aC;obtain⟨_,aU,ax,aF⟩:=ao.o;go_enter func128,ntmps128;go_upto_region 2 with fail;generalize (w.alloc _).alloc _=ak at ao HR HK cH j u aU ax aF⊢;have bu:V _:=PW j.o;go_wp2_with (first|(at_builtin;refine mj _ rfl _ _ _ rfl ak.heap.size 79 _ _ 6 _ underlying71 hi cg b8 cc rfl xab rfl _ _ _ _ rfl ?c0 bu.o ?c2 ?c3 ?c4 ?c5 ?_))
 case c0=>rw[yr,j.o.len]
 case c2=>exact OU _
 case c3=>unfold maxLen;omega
 case c4=>omega
 case c5=>exact yad
 intro v' aM l r;obtain⟨K,bk,rfl⟩:=iH l;have a9:=lg r (λk J=>by cases J) i3 yad;have bl:V _:=l;have bZ:V _:=a9;clear l r bu aU ax aF a9;obtain⟨_,aU,ax,aF⟩:=G0.keep ao.o bZ.o;have q:=IS.keep cH.o bZ.o yaa;have eg:V _:=q;have t:V _:=IS.keep u.o bZ.o yaa;have b7:V _:=G0.keep ao.o bZ.o;have cn:V _:=RB.keep HR.o bZ.o;have bQ:V (w.heap.size+1<ak.heap.size/\w.heap.size<=ak.heap.size/\ak.heap.size<=aM.heap.size):=⟨HR.o.sz,HK.o.size,bZ.o.size⟩
 clear q ao HR cH j u;go_wp2_with fail
 go_region_held3 (λO=>O.cell? ⟨w.heap.size,0,none⟩=some (.slice R Y c1)/\O.cell? ⟨w.heap.size,2,none⟩=some (.slice U aa c3)) (first|go_keep|(simp only[Mz _ _ _ _ _ _ _ bc];exact⟨bo,aQ⟩))
  (first
   |(go_at_call 70;refine yaj (nW _ _ _ _ _ _ _ cK (IS.keep t.o m yaa)) ?_;rintro e bz ⟨a3,ab,rfl,Z,a5⟩;have d:=Kept.trans m a5;obtain⟨_,bo,ar,aQ⟩:=G0.keep b7.o d;obtain⟨_,bm,aW,bd,bC,bH,bJ⟩:=RB.keep cn.o d;have bc:w.heap.size≠w.heap.size+1:=by omega)
   |(go_at_call 70;refine yaj (nW (aM.drewN 1) _ _ _ _ _ _ cj (IS.keep eg.o (eJ 0 0 _ 1) yaa)) ?_;rintro e bx ⟨a1,aX,rfl,cy,bS⟩;have m:=Kept.trans (eJ 0 0 _ 1) bS;obtain⟨_,a0,av,aT⟩:=G0.keep b7.o m))
 go_wp2_with fail;obtain⟨a8,aJ,aP⟩:=fd _ _ _ _ _ bm aW bd (.slice a1 Y aX) (.slice K ae bk) (.slice a3 aa ab);have aS:=fy bz (w.heap.size+1) (.slice a1 Y aX) (.slice K ae bk) (.slice a3 aa ab);have bA:(aM.drewN 1).heap.size=aM.heap.size:=rfl;have ej:=bS.size;have aj:=bQ.o
 have G:∀{b e size n:Nat}{v:Value}{xs:List _}{W:World},W.ownsRow b e _ v n _->ak.heap.size<=b->Kept 0 0 W _->(((bz.setCell _ _).setCell _ _).setCell _ _).ownsRow w.heap.size e size v n xs:=λh hb k=>
  gi (fJ (eN h k) aS (λg az=>i4 ((eF h az).1))) xaa
 refine yaz (v:=eX a1 Y aX K ae bk a3 aa ab) (by simp[results,results128,go_sem,a8,aJ,aP]) rfl ⟨a1,aX,K,bk,a3,ab,rfl,G cy xaa a5,G bl.o yad d,G Z xaa i3,⟨sR bl.o cy xaa,sR bl.o Z xaa,sR cy Z yad⟩,Kept.new ((HK.o.trans bZ.o).trans d) aS xaa⟩
