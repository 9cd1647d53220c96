import Derived.Test.YtbhmhdllnfkjhaaGreatP20
namespace Go.Proofs.Z
variable{Zp:Prop}
open Tryz
set_option maxRecDepth 1000000
set_option maxHeartbeats 0
section
open Go.RowKit Flt
attribute[local go_sem] eG eE eD
theorem Nh{w W O Z m1 e1 m3 af base cap vs o G r ak aq U R'}{ap j:Nat}{l d c0 c1 c2 c5 aX aC ad X x p a5 aN a2 aU Q ar aw}(aa:V (MS w W O m1 e1 Z m3 af vs ⟨o,G,(j:Int),r,ak,aq⟩ base U R' (some ⟨ap,0,none⟩) cap))(an:vs.length<=900000)(hj:j<vs.length)(m:(vs.getD j hI).len=l):PfC 30 W (MpR w O m1 e1 Z m3 af vs ⟨o,G,(j:Int),r,ak,aq⟩ base U (eL 10 l d 0 0)) c0 c1 c2 (hD d) (hB w.heap.size) c5 aX aC ad X x (hB (w.heap.size+1+1)) p a5 aN a2 aU Q ar aw X x:=by
 unfold PfC;intros;rename_i HK;have bc:V (∀az,Kept 0 0 W az->_):=λaz k=>MS.call aa.o k (eL 10 l d 0 0) xaa;have aT:=aa.o.g.c0;have ao:=aa.o.g.c1;have aG:=aa.o.g.c2;have ba:=aa.o.v.c2;exact xbx
end
section
open Go.RowKit Flt
variable{r:List Nat}{us vs:List Vl}{ins outs:List Int}{u v:Vl}
theorem Bb{op}(h:op≠1)(len C K e P az aB):iN op len C K P az aB=iN op len C e P az aB:=by
 unfold iN;have:gU op C K P az aB=gU op C e P az aB:=by grind[gU]
 rw[this]
def qe(news:List Vl)(o:Int):List Nat:=List.replicate (news.getD o.toNat hI).len.toNat (news.getD o.toNat hI).k
def nU(news:List Vl)(v:Vl):Bool:=decide (0<cnt v.op)&&(eQ v).all λo=>(news.getD o.toNat hI).op==1
def mq(news:List Vl)(v:Vl):List Nat:=iN v.op v.len v.c v.k (if 0<cnt v.op then qe news v.a else[]) (if 1<cnt v.op then qe news v.b else[]) (if 2<cnt v.op then qe news v.c else[])
def uni(r:List Nat):Bool:=decide (0<r.length)&&r.all λx=>fb x==fb (r.getD 0 0)
def jr(news:List Vl)(v:Vl):Vl:=if nU news v=true/\uni (mq news v)=true then⟨1,v.len,0,0,0,(mq news v).getD 0 0⟩else v
def fU(vs:List Vl):Nat->List Vl
 |0=>[]
 |i+1=>fU vs i++[jr (fU vs i) (vs.getD i hI)]
theorem kr(vs):∀i,(fU vs i).length=i
 |0=>rfl
 |i+1=>by rw[fU,yal,kr _ i];rfl
theorem zp{p}:r.all p=true↔∀k,k<r.length->p (r.getD k 0)=true:=by
 rw[List.all_eq_true];constructor
 ·simp_all
 intro h x ak;obtain⟨k,N,rfl⟩:=List.getElem_of_mem ak;simp_all
theorem pA{s}(h:fO r s):uni r=uni s:=by
 grind[iZ,uni,zp,gD]
theorem vK(h:Lk us vs)(o):fO (qe us o) (qe vs o):=by
 have e:=h.at_ o.toNat;grind[qe,cv,fO,List.map_replicate]
theorem pB(h:Kb us)(o):∀x∈qe us o,x<18446744073709551616:=by
 intro x ak;unfold qe at ak;rw[List.eq_of_mem_replicate ak];exact h.at_ _
theorem Bd(h:Lk us vs)(aD:cv u=cv v)(aj:Kb us)(ah:Kb vs)(ad:0<cnt u.op):fO (mq us u) (mq vs v):=by
 unfold mq;unfold cv at aD;injection aD with e1 e2 af e4 bo G;have B:u.op≠1:=λc=>by rw[c]at ad;exact absurd ad xab
 rw[<-e1,<-e2,<-af,<-e4,<-bo,Bb B _ _ v.k u.k]
 have au:∀(q:Prop) [Decidable q] (o:Int),fO (if q then qe us o else[]) (if q then qe vs o else[]):=λq _ o=>by
  by_cases c:q
  ·rw[hG c,hG c];exact vK h o
  ·rw[hF c,hF c];rfl
 refine mn (au _ _) (au _ _) (au _ _) ?_ ?_
 ·rw[hG ad];exact pB aj _
 rw[hG ad];exact pB ah _
theorem zt(h:Lk us vs)(aD:cv u=cv v):nU us u=nU vs v:=by
 unfold cv at aD;injection aD with e1 e2 af e4 bo G;have c:eQ u=eQ v:=by unfold eQ;grind
 unfold nU;rw[e1,c];congr 1;congr 1;funext o;have:=congrArg Vl.op (h.at_ o.toNat);have e:(us.getD _ _).op=(vs.getD o.toNat _).op:=this;rw[e]
theorem Gn(h:Lk us vs)(aD:cv u=cv v)(aj:Kb us)(ah:Kb vs):cv (jr us u)=cv (jr vs v):=by
 unfold jr;grind[zt,nU,Bd,pA,cv,gD]
theorem DH(ao v):(jr ao v).len=v.len:=by
 unfold jr;grind
theorem mN(vs):∀i j,j<i->((fU vs i).getD j hI).len=(vs.getD j hI).len
 |0,j,hj=>by omega
 |i+1,j,hj=>by
  have ab:=kr vs i
  rw[fU]
  by_cases c:j<i
  ·rw[gX _ _ xaa];exact mN _ i j c
  grind[DH]
theorem vL{i len k}(e:vs.getD i hI=⟨1,len,0,0,0,k⟩)(h:lenB len=true):okV ins vs i=true:=by
 unfold okV;rw[e];simp only;rw[h];rfl
theorem rG{ins vs}:∀i,(∀j,j<i->okV ins vs j=true)->∀j,j<i->okV ins (fU vs i) j=true
 |0,_,j,hj=>by omega
 |i+1,h,j,hj=>by
  have ab:=kr vs i
  have aa:=rG i (λj hj=>h j xaa)
  rw[fU]
  by_cases c:j<i
  ·exact nw xaa (aa j c)
  ·have:j=i:=xaa
   subst this
   have af:(fU vs j++[jr (fU vs j) (vs.getD j hI)]).getD j hI=jr (fU vs j) (vs.getD j hI):=by simp_all
   have al:=h j xaa
   by_cases hb:nU (fU vs j) (vs.getD j hI)=true/\uni (mq (fU vs j) (vs.getD j hI))=true
   ·grind[jr,vL,jB]
   ·have e2:jr (fU vs j) (vs.getD j hI)=vs.getD j hI:=by unfold jr;grind
    rw[e2]at af⊢
    refine tD al id (by rw[af]) (by rw[af]) (λ_=>by rw[af]) (λ_=>by rw[af]) (λ_=>by rw[af]) (by rw[af];simp) ?_
    grind[gX,mN]
theorem Gp(h:okG ins vs outs=true):okG ins (fU vs vs.length) outs=true:=by
 obtain⟨B,J,h3,a0,bz⟩:=fW h;have b1:=kr vs vs.length;refine qE ⟨B.1,by omega,B.2.2⟩ J (λj hj=>rG _ h3 j xaa) (by grind) ?_;grind[pt,mN]
def ja(p:Int)(vs:List Vl)(outs:List Int):List Vl×List Int:=
 if p=0 then kU vs outs else if p=2 then (fU vs vs.length,outs)else eqM p vs outs
theorem Gq(p)(h:okG ins vs outs=true):okG ins (ja p vs outs).1 (ja p vs outs).2=true:=by
 grind[ja,yB,Gp,Fq]
theorem Gt{ao}(h:Kb ao)(aD:v.k<18446744073709551616):(jr ao v).k<18446744073709551616:=by
 unfold jr;split
 ·exact fR (xC aD (km (pB h _)) (km (pB h _)) (km (pB h _))) 0
 exact aD
theorem lu{vs}(h:Kb vs):∀i,Kb (fU vs i)
 |0=>by intro v aD;simp[fU]at aD
 |i+1=>by
  rw[fU]
  exact(lu h i).app (Gt (lu h i) (h.at_ i))
theorem rH{us vs}(h:Lk us vs)(aj:Kb us)(ah:Kb vs):∀i,Lk (fU us i) (fU vs i)
 |0=>rfl
 |i+1=>by
  rw[fU,fU]
  exact(rH h aj ah i).app (Gn (rH h aj ah i) (h.at_ i) (lu aj i) (lu ah i))
theorem uh(p)(h:Lk us vs)(aj:Kb us)(ah:Kb vs):Lk (ja p us outs).1 (ja p vs outs).1/\(ja p us outs).2=(ja p vs outs).2:=by
 unfold ja;split
 ·exact Fr h
 split
 ·rw[h.len];exact⟨rH h aj ah _,rfl⟩
 exact MC p h
theorem lG{vs}(h:Kb vs)(p):∀i,Kb (fA p vs i).1
 |0=>by intro v aD;simp[fA]at aD
 |i+1=>(lG h p i).app (h.at_ i)
theorem pC{vs}(h:Kb vs)(F):∀i,Kb (gI F vs i).1
 |0=>by intro v aD;simp[gI]at aD
 |i+1=>by
  rw[gI]
  split
  ·exact(pC h F i).app (h.at_ i)
  ·exact pC h F i
theorem Gu(p)(h:Kb vs):Kb (ja p vs outs).1:=by
 unfold ja;split
 ·exact pC h _ _
 split
 ·exact lu h _
 exact lG h p _
def gM(vs:List Vl)(outs:List Int)(ps:List Int):Nat->List Vl×List Int
 |0=>(vs,outs)
 |k+1=>ja (ps.getD k 0) (gM vs outs ps k).1 (gM vs outs ps k).2
theorem mr{ins vs outs}(X)(h:okG ins vs outs=true):∀k,okG ins (gM vs outs X k).1 (gM vs outs X k).2=true
 |0=>h
 |k+1=>Gq _ (mr X h k)
theorem ms{vs outs}(X)(h:Kb vs):∀k,Kb (gM vs outs X k).1
 |0=>h
 |k+1=>Gu _ (ms X h k)
theorem DJ{i}(h:okV ins vs i=true)(hi:i<=2000)(ab:ins.length<=20)(b9:∀j,j<i->lenB (vs.getD j hI).len=true):
  (0<=(vs.getD i hI).op/\(vs.getD i hI).op<=13)/\(0<=(vs.getD i hI).len/\(vs.getD i hI).len<=2000)/\(0<=(vs.getD i hI).a/\(vs.getD i hI).a<=2000)/\(0<=(vs.getD i hI).b/\(vs.getD i hI).b<=2000)/\(0<=(vs.getD i hI).c/\(vs.getD i hI).c<=2000):=by
 have bD:=nD h;have ct:=of_decide_eq_true (jB h);have bX:=i6 h;have aU:1<=cnt _->_:=λc=>bX _ (gm c);have aS:2<=cnt _->_:=λc=>bX _ (jd c);have bT:3<=cnt _->_:=λc=>bX _ (lU c);unfold okV at h;generalize aD:vs.getD i _=v at*;rw[Bool.and_eq_true,Bool.and_eq_true]at h;obtain⟨⟨_,al⟩,l⟩:=h
 have f:cnt v.op<1->v.op≠0->v.a=0:=λc c0=>by
  unfold gg at al
  by_cases e:v.a=0
  ·exact e
  ·simp[c,c0,e]at al
 have g:cnt v.op<2->v.b=0:=λc=>by
  unfold gg at al
  by_cases e:v.b=0
  ·exact e
  ·simp[c,e]at al
 have cG:cnt v.op<3->iU v.op=false->v.c=0:=λc cp=>by
  unfold gg at al
  by_cases e:v.c=0
  ·exact e
  ·simp[c,cp,e]at al
 have k:v.op=0->_:=λc=>by
  rw[hG c,Bool.and_eq_true]at l
  exact of_decide_eq_true l.1
 have cS:iU v.op=true->0<=v.c/\v.c<=1000:=λc=>by
  have aK:=of_decide_eq_true c
  rw[hF xaa,Bool.and_eq_true]at l
  have ar:=l.2
  unfold eY at ar
  have c1:cnt v.op=1:=by rcases aK with e|e<;>rw[e]<;>decide
  have F:=aU xaa
  have m:=of_decide_eq_true (b9 v.a.toNat xaa)
  have bc:((eQ v).map λo=>(vs.getD o.toNat hI).len).getD 0 0=(vs.getD v.a.toNat hI).len:=by
   unfold eQ
   rw[c1]
   rfl
  rcases aK with e|e
  ·rw[hF xaa,hF xaa,hG e,Bool.and_eq_true,bc]at ar
   have:=of_decide_eq_true ar.2
   omega
  ·rw[hF xaa,hF xaa,hF xaa,hG e,Bool.and_eq_true]at ar
   have:=of_decide_eq_true ar.2
   omega
 refine⟨bD,by omega,?_,?_,?_⟩
 ·by_cases c:1<=cnt v.op
  ·have:=aU c;omega
  by_cases c0:v.op=0
  ·have:=k c0;omega
  have:=f xaa c0;omega
 ·by_cases c:2<=cnt v.op
  ·have:=aS c;omega
  have:=g xaa;omega
 by_cases c:3<=cnt v.op
 ·have:=bT c;omega
 cases aK:iU v.op
 ·have:=cG xaa aK;omega
 have:=cS aK;omega
end
section
open Go.RowKit Flt Go.Maps
attribute[local go_sem] eG eE eD
variable{x i b:Nat}{A U:List Vl}{w I:World}
theorem DK{x}(h:0<=x/\x<=2000):(Lit.int .i64 x).wf=true:=by
 have e1:IntKind.i64.min=-9223372036854775808:=xab;have e2:IntKind.i64.max=9223372036854775807:=xab;show(decide (IntKind.i64.min<=x)&&decide (x<=IntKind.i64.max))=true;exact xhv
theorem Ni(h:x<18446744073709551616):fb x<18446744073709551616:=by
 unfold fb;split
 ·decide
 exact h
theorem wfU(h:x<18446744073709551616):(Lit.int .u64 (x:Nat)).wf=true:=by
 have e1:IntKind.u64.min=0:=xab;have e2:IntKind.u64.max=18446744073709551615:=xab;show(decide (IntKind.u64.min<=(x:Int))&&decide ((x:Int)<=IntKind.u64.max))=true;exact xhv
theorem Nj{ins vs}(h:okV ins vs i=true)(hi:i<=2000)(ab:ins.length<=20)(b9:∀j,j<i->lenB (vs.getD j hI).len=true)(N:(vs.getD i hI).k<18446744073709551616):Wf (vs.getD i hI):=by
 obtain⟨ae,B,J,h3,a0⟩:=DJ h hi ab b9;refine⟨DK xaa,DK B,DK J,DK h3,DK a0,wfU ?_⟩;unfold pP;split
 ·exact Ni N
 decide
theorem sP{nv o}(ab:A.length=i)(al:o<i):(A++[nv]++U).getD o hI=A.getD o hI:=by
 rw[List.append_assoc,yai,yat xaa,<-yai]
theorem qU{nv}(ab:A.length=i):(A++[nv]++U).getD i hI=nv:=by
 subst ab;rw[List.append_assoc,yai,yas yad,Nat.sub_self];rfl
theorem JU{nv}(ab:A.length=i)(hn:∀o∈eQ nv,0<=o/\o<i):
  (if nv.op=6/\((A++[nv]++U).getD nv.a.toNat hI).op=6 then ((A++[nv]++U).getD nv.a.toNat hI).a else (i:Int))=fQ 3 A nv i:=by
 unfold fQ;rw[hF (by decide:¬(3:Int)=1),hG rfl];by_cases c:nv.op=6
 ·have:=hn _ (gm (by rw[c];decide));rw[sP ab xaa]
 rw[hF (λh=>c h.1),hF (λh=>c h.1)]
theorem Gv{nv}(ab:A.length=i)(hn:∀o∈eQ nv,0<=o/\o<i):BT (A++[nv]++U) nv i=fQ 4 A nv i:=by
 unfold fQ BT;rw[hF (by decide:¬(4:Int)=1),hF (by decide:¬(4:Int)=3)];cases aH:tH nv.op
 ·have:=of_decide_eq_false aH;rw[hF xac,hF xaa,hF xaa,hF xaa,hF xaa,hF xaa]
 have ad:=vi aH;have F:=hn _ (gm xaa);have hb:=hn _ (jd xaa);have b4:∀k,isC (A++[nv]++U) nv.a k=isC A _ k:=λk=>by unfold isC;rw[sP ab xaa]
 have ch:∀k,isC (A++[nv]++U) nv.b k=isC A _ k:=λk=>by unfold isC;rw[sP ab xaa]
 rw[hG rfl,b4,ch];have al:=of_decide_eq_true aH;unfold nR qF;rcases al with e|e|e|e
 all_goals simp[e]
theorem rI(p vs i):(fA p vs (i+1)).1++vs.drop (i+1)=(fA p vs i).1++[rnm (fA p vs i).2 (vs.getD i hI)]++vs.drop (i+1):=rfl
theorem Be(w v):Calls prog 90 #[v.agg] w λe I=>e=.returned (qG v)/\Kept 0 0 w I:=by
 have aI:V _:=s8 v.k;unfold qG pP;have aF:∀(o j c:Obj),_:=λo j c=>((ez 0 0 w o).trans (ez 0 0 _ j)).trans (ez 0 0 _ c);have bR:V _:=aF;clear aF;by_cases h:v.op=1
 ·rw[hG h];have t:(v.op==1)=true:=by simp[h]
  clear h;go_enter func90,ntmps90;go_wp2_with ((go_at_call 133;refine yaj (aI.o _) ?_;rintro e ag ⟨rfl,rfl⟩));exact yaz (v:=.agg #[hD v.op,hD v.len,hD v.a,hD v.b,hD v.c,.int .u64 (fb v.k:Nat)]) (by simp[results,results90,go_sem]) rfl ⟨rfl,bR.o _ _ _⟩
 rw[hF h];have t:=yan h;clear h;go_enter func90,ntmps90;go_wp2;exact yaz (v:=.agg #[hD v.op,hD v.len,hD v.a,hD v.b,hD v.c,.int .u64 0]) (by simp[results,results90,go_sem]) rfl ⟨rfl,bR.o _ _ _⟩
theorem DL(h:w.grownBy I (some b)):Chg (λi=>i=b) w I:=
 ⟨h.os,h.tape,h.output,h.size,λk N hn=>h.block k N (λc=>hn (hH c))⟩
theorem xH{k U n}{D:DataW Unit}(h:w.ownsMap prog k U b n D)(e:I.heap[b]? =w.heap[b]?):I.ownsMap prog k U b n D:=by
 obtain⟨es,bb,B,J⟩:=h;exact⟨_,_,hO e B,J⟩
structure CI(W:World)(FB B i:Nat)(us:List Vl):Prop where
 lt:FB<W.heap.size
 box:W.cell? ⟨FB,0,none⟩=some (.map (some B))
 own:W.ownsMap prog 121 (plainElem (H:=Unit) prog 3) B i (jV us i)
theorem CI.keepC{W W' S f R us}(h:CI W f R i us)(k:Chg S W W')(B:¬S f)(J:¬S R):CI W' f R i us:=
 ⟨yak h.lt k.size,by rw[k.cell h.lt B];exact h.box,xH h.own (k.block R h.own.lt J)⟩
theorem Ph(h:i<=2000):(Lit.int .i64 (i:Nat)).wf=true:=DK xaa
theorem P7(W g n c i f R A U nv)(av:VA W g n (A++[nv]++U))(ab:A.length=i)(hi:i<n)(hn:n<=2000)(a6:CI W f R i A)(cf:f≠R)(aH:∀j,j<A.length->Wf (A.getD j hI))(aD:Wf nv):
  Calls prog 89 #[hC g n c,hD (i:Nat),hB f] W λe I=>e=.returned (hD (A.findIdx (f8 · nv):Nat))/\Chg (λb=>b=R) W I/\CI I f R (i+1) (A++[nv]):=by
 have be:=av.at_ i hi;rw[qU ab]at be;have a9:=De aH aD;rw[ab]at a9;have ar:=Df (us:=A) (v:=nv);rw[ab]at ar;have h:=wX aD;have bW:V _:=a6;have au:V _:=ar;have af:V _:=λw=>Be w nv;unfold qG at af h;have m:=Ph (i:=i) xaa;clear av a6 ar aD aH;obtain⟨bb,aM,aQ,bY,cg,cn⟩:=be;generalize am:pP _=p at af h;clear am;generalize A.findIdx _=ca at a9⊢;generalize gH _=l at h a9 au;have aI:V _:=h;clear h ab;go_enter func89,ntmps89;go_wp2_with fail;clear bb aM aQ bY cg cn;refine yaj (af.o W) ?_;rintro e ag ⟨rfl,ah⟩;have bx:=ez 0 0 ag (.cells #[hD nv.op,hD nv.len,hD nv.a,hD nv.b,hD nv.c,.int .u64 p] 121);have q:V _:=CI.keepC (S:=λ_=>False) bW.o (ah.trans bx).chg id id;have bR:V _:=ah.trans bx;have aR:=q.o.box;rcases a9 with⟨B,J⟩|⟨B,J,h3⟩
 ·rw[B,hF xac]at au;have HO:V _:=q.o.own;have b3:=J;subst b3
  go_wp2_with (first
   |(at_lookup;refine wpList_lookup_own_ok_int _ rfl _ _ _ rfl _ 3 _ AJ underlying117 underlying3 (LY _) R _ _ rfl HO.o _ _ rfl aI.o ?_;intro c be k)
   |(at_mapUpdate;refine wpList_mapUpdate_own _ rfl _ _ _ _ rfl _ 3 AJ underlying117 _ R _ _ rfl HO.o (by unfold maxLen;omega) _ _ _ rfl rfl aI.o _ _ (plainElem_int underlying3 m) ?_;intro br X aW))
  go_ret;have bD:=DL aW;refine⟨rfl,Chg.trans bR.o.chg bD,⟨yak q.o.lt bD.size,?_,?_⟩⟩
  ·rw[bD.cell q.o.lt cf];exact q.o.box
  rw[au.o];exact X
 rw[B,hG rfl]at au;have HO:V _:=q.o.own;have H3:V _:=h3 (.lit (.int .i64 0));clear h3;go_wp2_with ((at_lookup;refine wpList_lookup_own_ok_int _ rfl _ _ _ rfl _ 3 _ AJ underlying117 underlying3 (LY _) R i _ rfl HO.o _ _ rfl aI.o ?_;intro c be k;have t:V _:=be;clear be k));go_ret
 have ak:c=ca:=by
  have:=t.o.symm.trans H3.o;injection this with this;injection this
 refine⟨hS ak,bR.o.chg,⟨q.o.lt,q.o.box,?_⟩⟩;rw[au.o];exact World.ownsMap.mono HO.o (Nat.le_succ i)
end
section
open Go.RowKit Flt
attribute[local go_sem] eG eE eD
variable{q lo base j n g i k l bl h T c gk cap:Nat}{ins:List Int}{F:List Bool}{w I W' bj bg:World}{us ao vs:List Vl}{y u:Value}{Q:Option Nat}{v:Vl}{zs xs x:List Nat}{ai:List (List Nat)}{b:Option Addr}{S:List Vl×List Int}
theorem FS.setS{hi a}(f:FS w lo hi a n xs)(ad:w.cell? ⟨g,k,none⟩=some u)(aH:∀x,u≠.float .f64 x)(v):FS (w.setCell ⟨g,k,none⟩ v) lo hi a n xs:=
 ⟨f.len,f.lt,by
  rcases f.at_ with ae|⟨aB,off,e,B,J,h3,a0⟩
  ·exact .inl ae
  ·refine .inr ⟨aB,off,e,B,J,by simpa using h3,λj hj=>?_⟩
   by_cases c:g=aB/\k=off+j
   ·obtain⟨rfl,rfl⟩:=c
    have:=a0 j hj
    rw[ad]at this
    injection this with this
    exact absurd this (aH _)
   ·rw[eM _ _ _ _ _ _ xaa];exact a0 j hj⟩
theorem Cl.setS(f:Cl w y xs)(ad:w.cell? ⟨g,k,none⟩=some u)(aH:∀x,u≠.float .f64 x)(v):Cl (w.setCell ⟨g,k,none⟩ v) y xs:=by
 obtain⟨b,n,c,zs,B,J,h3,a0⟩:=f;exact⟨b,n,c,zs,B,J,(h3.setS ad aH v).mono yad xac,a0⟩
theorem iC(b n c):∀x,(Value.slice b n c)≠.float .f64 x:=λ_ h=>by cases h
structure LV(w:World)(g n k:Nat)(Vs:List (List Nat)):Prop where
 lt:g<w.heap.size
 free:∀o,w.frozen? ⟨g,o,none⟩=false
 at_:∀j,j<n->∃b m c,w.cell? ⟨g,j,none⟩=some (.slice b m c)/\(j<k->Cl w (.slice b m c) (Vs.getD j []))
theorem LV.keep(f:LV w g n k ai)(q:Kept 0 0 w I):LV I g n k ai:=
 ⟨yak f.lt q.size,λo=>by rw[q.frozen (p:=⟨g,o,none⟩) f.lt xaa];exact f.free o,λj hj=>by
  obtain⟨b,m,c,B,J⟩:=f.at_ j hj
  exact⟨b,m,c,iF q f.lt B,λh=>(J h).keep q⟩⟩
theorem LV.made(w:World)(n ai):LV (w.alloc (.cells (madeCells #[.slice none 0 0] n) 48)) w.heap.size n 0 ai where
 lt:=by simp
 free:=λo=>by simp
 at_:=λj hj=>by
  rw[yav]
  refine⟨none,0,0,?_,λh=>absurd h (Nat.not_lt_zero _)⟩
  simp only[madeCells]
  rw[Array.getElem?_map,Array.getElem?_range,hG hj]
  have aq:j%1=0:=Nat.mod_one j
  simp[aq]
theorem LV.step{xss}(f:LV w g n k (eX xss vs k))(N:k<n)(q:Kept 0 0 w I){m}(aH:Cl I (.slice b m c) (one xss (vs.getD k hI) (eX xss vs k))):
  LV (I.setCell ⟨g,k,none⟩ (.slice b m c)) g n (k+1) (eX xss vs (k+1)):=by
 have p:=f.keep q;obtain⟨bH,H,c0,ad,_⟩:=p.at_ k N;refine⟨by simpa using p.lt,λo=>by simp[p.free o],λj hj=>?_⟩;by_cases e:j=k
 ·subst e;exact⟨b,m,c,fD _ _ _ _ _ ad,λ_=>by rw[jw];exact aH.setS ad (iC _ _ _) _⟩
 obtain⟨O,m1,c1,B,J⟩:=p.at_ j hj;refine⟨O,m1,c1,by rw[eM _ _ _ _ _ _ (.inr (Ne.symm e))];exact B,λh=>?_⟩;rw[iX _ _ xaa];exact(J xaa).setS ad (iC _ _ _) _
theorem mw(F:Nat->List Nat)(h:j<n):((List.range n).map F).getD j []=F j:=by
 simp[List.getD_eq_getElem?_getD,h]
theorem LV.ss(f:LV w g n n ai):∃z,SS w (some ⟨g,0,none⟩) n z/\∀j,j<n->fO (z.getD j []) (ai.getD j []):=by
 have h:∀j,∃zs:List Nat,j<n->∃b c,w.cell? ⟨g,j,none⟩=some (.slice b zs.length c)/\zs.length<=c/\FS w 0 w.heap.size b zs.length zs/\fO zs (ai.getD j []):=λj=>by
  by_cases hj:j<n
  ·obtain⟨b,m,c,B,J⟩:=f.at_ j hj
   obtain⟨aI,r,aH,zs,e,a1,Y,a3⟩:=J hj
   exact xje
  ·exact⟨[],λc=>absurd c hj⟩
 obtain⟨F,bp⟩:=Classical.axiomOfChoice h;refine⟨(List.range n).map F,⟨by simp,.inr ⟨g,0,rfl,f.lt,λk N=>?_⟩⟩,λj hj=>?_⟩
 ·rw[mw F N,Nat.zero_add];obtain⟨b,c,a1,Y,a3,_⟩:=bp k N;exact⟨b,c,a1,Y,a3⟩
 rw[mw F hj];obtain⟨b,c,_,_,_,a4⟩:=bp j hj;exact a4
theorem kN{e size:Nat}{v xs W}(h:W.ownsRow base e size v n xs)(k:Kept 0 0 W W'):W'.ownsRow base e size v n xs:=by
 refine⟨h.1,h.2.imp id ?_⟩;rintro⟨g,cap,H,e1,O,ax,Z⟩;refine⟨g,cap,H,e1,O,?_,Z⟩
 have aR:g<W.heap.size:=by
  exact xcr
 rw[k.block g aR xaa];exact ax
theorem FS.grown{W}(f:FS W 0 W.heap.size b n zs)(aR:W.grownBy W' Q)(cf:0<n->∀p,b=some p->Q≠some p.block):FS W' 0 W'.heap.size b n zs:=
 ⟨f.len,f.lt,by
  rcases f.at_ with ae|⟨aB,off,e,B,J,h3,a0⟩
  ·exact .inl ae
  ·refine .inr ⟨aB,off,e,B,yak h3 aR.size,yak h3 aR.size,λj hj=>?_⟩
   rw[aR.cell_far ⟨aB,off+j,none⟩ h3 (λc=>cf xaa _ e c.symm)]
   exact a0 j hj⟩
theorem Cl.grown{W}(f:Cl W (.slice b n c) xs)(aR:W.grownBy W' Q)(cf:0<n->∀p,b=some p->Q≠some p.block):Cl W' (.slice b n c) xs:=by
 obtain⟨aI,r,aH,zs,e,J,h3,a0⟩:=f;cases e;exact⟨b,n,c,zs,rfl,J,h3.grown aR cf,a0⟩
theorem Cl.lt{W}(f:Cl W (.slice b n c) xs)(hn:0<n)(p)(aK:b=some p):p.block<W.heap.size:=by
 obtain⟨aI,r,aH,zs,e,J,h3,a0⟩:=f;cases e;rcases h3.at_ with ae|⟨aB,off,e,B,J,h3,a0⟩
 ·omega
 rw[e]at aK;cases aK;exact h3
theorem Cn.ge{W}(f:Cn W lo (.slice b n c) xs)(hn:0<n)(p)(aK:b=some p):lo<=p.block:=by
 obtain⟨aI,r,aH,zs,e,J,h3,a0⟩:=f;cases e;rcases h3.at_ with ae|⟨aB,off,e,B,J,h3,a0⟩
 ·omega
 rw[e]at aK;cases aK;exact B
def AR(W:World)(base:Nat)(v:Value)(k:Nat)(Vs:List (List Nat)):Prop:=
 ∃us:List Value,W.ownsRow base 48 1 v k us/\∀j,j<k->∃b n c,us[j]? =some (.slice b n c)/\Cl W (.slice b n c) (Vs.getD j [])/\(0<n->∀p,b=some p->v.ownBlock≠some p.block)
theorem AR.nil(W base ai):AR W base (.slice none 0 0) 0 ai:=⟨[],yaw _ _ _ _,λ_ hj=>absurd hj (Nat.not_lt_zero _)⟩
theorem AR.keep{W v}(f:AR W base v k ai)(q:Kept 0 0 W W'):AR W' base v k ai:=by
 obtain⟨us,B,J⟩:=f;refine⟨us,kN B q,λj hj=>?_⟩;obtain⟨b,n,c,a1,Y,a3⟩:=J j hj;exact⟨b,n,c,a1,Y.keep q,a3⟩
theorem AR.cell{W v}(f:AR W base v k ai)(N:0<k):
  ∃g cap,v=hC g k cap/\base<=g/\g<W.heap.size/\∀j,j<k->∃b n c,W.cell? ⟨g,j,none⟩=some (.slice b n c)/\Cl W (.slice b n c) (ai.getD j [])/\(0<n->∀p,b=some p->g≠p.block):=by
 obtain⟨us,B,J⟩:=f;rcases B.2 with⟨_,c⟩|⟨g,cap,H,rfl,O,ax,Z,_,cj,bG⟩
 ·omega
 have aR:g<W.heap.size:=by
  exact xcr
 refine⟨g,cap,rfl,O,aR,λj hj=>?_⟩;obtain⟨b,n,c,a1,Y,a3⟩:=J j hj;refine⟨b,n,c,?_,Y,λhn p aK e=>a3 hn p aK (by rw[<-e];rfl)⟩;rw[cell_of_row W g _ H _ _ ax,<-Array.getElem?_toList];have:(H.toList.take (k*1))[j]? =us[j]?:=by rw[bG]
 rw[List.getElem?_take_of_lt xaa]at this;rw[this,a1]
theorem AR.step{W v us}(B:W.ownsRow base 48 1 v k us)
  (J:∀j,j<k->∃b n c,us[j]? =some (.slice b n c)/\Cl W (.slice b n c) (ai.getD j [])/\(0<n->∀p,b=some p->v.ownBlock≠some p.block))
  {o} (bT:Cl W (.slice b n c) x) (hn:0<n->∀p,b=some p->v.ownBlock≠some p.block)
  (bQ:bg.ownsRow base 48 1 (hC g (k+1) cap) (k+1) (us++[.slice b n c])) (aR:(W.alloc o).grownBy bg v.ownBlock) (be:v.ownBlock=some g\/g=(W.alloc o).heap.size)
  {f} (e1:∀j,j<k->f.getD j []=ai.getD j []) (e2:f.getD k []=x):AR bg base (hC g (k+1) cap) (k+1) f:=by
 have ab:us.length=k:=hM B.1
 have bx:=ez 0 0 W o;have ar:W.heap.size<(W.alloc o).heap.size:=by simp
 have au:∀(b:Option Addr) (n c:Nat) (x:List Nat),Cl W (.slice b n c) x->(0<n->∀p,b=some p->v.ownBlock≠some p.block)->Cl bg (.slice b n c) x/\(0<n->∀p,b=some p->(hC g (k+1) cap).ownBlock≠some p.block):=λb n c x ad aD=>
  ⟨(ad.keep bx).grown aR aD,λae p aK e=>by
    have z:g=p.block:=by simpa[Value.ownBlock] using e
    rcases be with h|h
    ·exact aD ae p aK (by rw[h,z])
    ·have:=ad.lt ae p aK
     omega⟩
 refine⟨_,bQ,λj hj=>?_⟩;by_cases aH:j<k
 ·obtain⟨aI,r,m,a1,Y,a3⟩:=J j aH;obtain⟨aj,ah⟩:=au _ _ _ _ Y a3;exact⟨aI,r,m,by rw[yat xaa];exact a1,by rw[e1 j aH];exact aj,ah⟩
 have:j=k:=xaa;subst this;obtain⟨aj,ah⟩:=au _ _ _ _ bT hn;exact⟨b,n,c,by rw[yas xaa,ab,Nat.sub_self];rfl,by rw[e2];exact aj,ah⟩
theorem AR.ss{W v}(f:AR W base v k ai):∃a cap z,v=.slice a k cap/\SS W a k z/\∀j,j<k->fO (z.getD j []) (ai.getD j []):=by
 rcases Nat.eq_zero_or_pos k with ae|ae
 ·subst ae;obtain⟨us,B,_⟩:=f;rcases B.2 with⟨rfl,_⟩|⟨g,cap,H,rfl,_⟩
  ·exact⟨none,0,[],rfl,⟨rfl,.inl rfl⟩,λj hj=>absurd hj (Nat.not_lt_zero _)⟩
  exact⟨_,cap,[],rfl,⟨rfl,.inl rfl⟩,λj hj=>absurd hj (Nat.not_lt_zero _)⟩
 obtain⟨g,cap,rfl,_,aR,ad⟩:=f.cell ae
 have h:∀j,∃zs:List Nat,j<k->∃b c,W.cell? ⟨g,j,none⟩=some (.slice b zs.length c)/\zs.length<=c/\FS W 0 W.heap.size b zs.length zs/\fO zs (ai.getD j []):=λj=>by
  by_cases hj:j<k
  ·obtain⟨b,m,c,B,J,_⟩:=ad j hj
   obtain⟨aI,r,aH,zs,e,a1,Y,a3⟩:=J
   exact xje
  ·exact⟨[],λc=>absurd c hj⟩
 obtain⟨F,bp⟩:=Classical.axiomOfChoice h;refine⟨_,cap,(List.range k).map F,rfl,⟨by simp,.inr ⟨g,0,rfl,aR,λj hj=>?_⟩⟩,λj hj=>?_⟩
 ·rw[mw F hj,Nat.zero_add];obtain⟨b,c,a1,Y,a3,_⟩:=bp j hj;exact⟨b,c,a1,Y,a3⟩
 rw[mw F hj];obtain⟨b,c,_,_,_,a4⟩:=bp j hj;exact a4
theorem uS(w)(len A R C:Int)(K g n c m cb b xss)(aZ:SS w b m xss)(ae:0<=A)(B:A<m):
  Calls prog 30 #[kT 0 len A R C K,hC g n c,.slice b m cb] w λe I=>∃aI r aH,e=.returned (.slice aI r aH)/\Cl I (.slice aI r aH) (xss.getD A.toNat [])/\Kept 0 0 w I:=by
 obtain⟨j,rfl⟩:∃j:Nat,A=j:=⟨A.toNat,by omega⟩
 rw[Int.toNat_natCast];rcases aZ.at_ with z|⟨aY,aP,rfl,aM,aQ⟩
 ·omega
 obtain⟨ax,J,c2,c3,c4⟩:=aQ j xaa;have aw:=ez 0 0 w (fB 0 len j R C K);have U:V (Cl (w.alloc (fB 0 len j R C K)) (.slice ax (xss.getD j []).length J) (xss.getD j [])):=Cl.keep ⟨_,_,_,_,rfl,c3,c4,rfl⟩ aw;have c5:=iF aw aM c2;clear c2 c3 c4 aQ aZ;generalize xss.getD j []=xs at U c5⊢;go_enter func30,ntmps30;go_wp2;go_ret;exact⟨_,_,_,rfl,U.o,aw⟩
def opl(v:Vl)(Vs:List (List Nat))(q:Nat):List (List Nat):=[if 0<q then Vs.getD v.a.toNat [] else[],if 1<q then Vs.getD v.b.toNat [] else[],if 2<q then Vs.getD v.c.toNat [] else[]]
def kop(v:Vl)(Vs:List (List Nat)):List Nat:=iN v.op v.len v.c v.k ((opl v Vs (cnt v.op)).getD 0 []) ((opl v Vs (cnt v.op)).getD 1 []) ((opl v Vs (cnt v.op)).getD 2 [])
theorem JV(v ai)(am:q<3):(opl v ai q).set q (ai.getD ([v.a,v.b,v.c].getD q 0).toNat [])=opl v ai (q+1):=by
 have:q=0\/q=1\/q=2:=xaa;rcases this with rfl|rfl|rfl<;>simp[opl]
theorem zu(v)(am:q<cnt v.op):(eQ v).getD q 0=[v.a,v.b,v.c].getD q 0:=by
 unfold eQ;rw[yai,yai,List.getElem?_take_of_lt am]
theorem LV.put{w I g n ai}(f:LV w g n n ai){j}(hj:j<n)(ab:ai.length=n)(q:Kept 0 0 w I){b m c x}(aH:Cl I (.slice b m c) x):
  LV (I.setCell ⟨g,j,none⟩ (.slice b m c)) g n n (ai.set j x):=by
 have p:=f.keep q;obtain⟨bH,H,c0,ad,_⟩:=p.at_ j hj;refine⟨by simpa using p.lt,λo=>by simp[p.free o],λi hi=>?_⟩;by_cases e:i=j
 ·subst e;refine⟨b,m,c,fD _ _ _ _ _ ad,λ_=>?_⟩;rw[yai,List.getElem?_set,hG rfl,hG xaa];exact aH.setS ad (iC _ _ _) _
 obtain⟨O,m1,c1,B,J⟩:=p.at_ i hi;refine⟨O,m1,c1,by rw[eM _ _ _ _ _ _ (.inr (Ne.symm e))];exact B,λh=>?_⟩;rw[yai,List.getElem?_set,hF (Ne.symm e),<-yai];exact(J h).setS ad (iC _ _ _) _
theorem LV.other{P}(f:LV w g n k ai)(cf:P≠g)(ad:w.cell? ⟨P,j,none⟩=some u)(aH:∀x,u≠.float .f64 x)(v):LV (w.setCell ⟨P,j,none⟩ v) g n k ai:=by
 refine⟨by simpa using f.lt,λo=>by simp[f.free o],λi hi=>?_⟩;obtain⟨O,m1,c1,B,J⟩:=f.at_ i hi;exact⟨O,m1,c1,by rw[eM _ _ _ _ _ _ (.inl cf)];exact B,λh=>(J h).setS ad aH _⟩
theorem DM(w:World):LV (w.alloc (.cells #[.slice none 0 0,.slice none 0 0,.slice none 0 0] 84)) w.heap.size 3 3 [[],[],[]] where
 lt:=by simp
 free:=λo=>by simp
 at_:=λj hj=>by
  have:j=0\/j=1\/j=2:=xaa
  refine⟨none,0,0,?_,λ_=>?_⟩
  ·rcases this with rfl|rfl|rfl<;>simp
  ·rcases this with rfl|rfl|rfl<;>exact Cl.nil _
theorem Ca(w:World)(v):At (w.alloc (fB v.op v.len v.a v.b v.c v.k)) w.heap.size 0 v:=by
 exact xfs
theorem pR(w v)(ae:v.op≠0)(g n c m cb k b ai)(bJ:LV w g n k ai)(bG:k<=n)(N:v.k<18446744073709551616)(bf:iT ai)(B:(eQ v).all (fJ · k)=true):
  Calls prog 30 #[v.agg,hC g n c,.slice b m cb] w λe I=>∃aI r aH,e=.returned (.slice aI r aH)/\Cn I w.heap.size (.slice aI r aH) (kop v ai)/\Kept 0 0 w I:=by
 have t:(v.op==0)=false:=yan ae;have ad:=f9 v.op;have aj:=ez 0 0 w (fB v.op v.len v.a v.b v.c v.k);have ah:=ez 0 0 (w.alloc (fB v.op v.len v.a v.b v.c v.k)) (.cells #[.slice none 0 0,.slice none 0 0,.slice none 0 0] 84);have aa:V _:=DM (w.alloc (fB v.op v.len v.a v.b v.c v.k));have bL:V _:=(Ca w v).keep xac ah yaa;have HL:V _:=bJ.keep (aj.trans ah);have HK:V _:=aj.trans ah;have b7:V (w.heap.size+1<((w.alloc (fB v.op v.len v.a v.b v.c v.k)).alloc (.cells #[.slice none 0 0,.slice none 0 0,.slice none 0 0] 84)).heap.size):=by show _<_;simp
 have aX:V (g<w.heap.size):=bJ.lt;have bo:V _:=bf;have H1:V _:=B;clear ae aj ah bJ bf B;obtain⟨bF,a9,ba,be,bi,s⟩:=bL.o;go_enter func30,ntmps30;go_wp2_with fail;clear bF a9 ba be bi s;generalize ((w.alloc (fB v.op v.len v.a v.b v.c v.k)).alloc (.cells #[.slice none 0 0,.slice none 0 0,.slice none 0 0] 84))=aO at aa bL HL HK b7⊢;refine(nu _ v).mono ?_;rintro e ag ⟨G,rfl,a6,bv,aF⟩;have bW:V _:=a6
 have bB:LV ag (w.heap.size+1) 3 3 (opl v ai 0):=by
  have:=aa.o.keep aF;rw[show(w.alloc (fB v.op v.len v.a v.b v.c v.k)).heap.size=w.heap.size+1 by simp]at this;exact this
 have f:=bL.o.keep (hM b7.o) aF yaa;have aA:=HL.o.keep aF;have P:=HK.o.trans aF;have b9:V _:=bB;have p:V _:=f;have ab:V _:=aA;have bD:V _:=P;have cJ:V (aO.heap.size<=ag.heap.size):=aF.size;clear a6 bB f aA P aF aa bL HL HK;go_wp2_with fail;go_loopw [21] (λi W=>∃q:Nat,q<=cnt v.op/\i=hD q/\V (LV W (w.heap.size+1) 3 3 (opl v ai q))/\V (At W w.heap.size 0 v)/\V (LV W g n k ai)/\V (IS W aO.heap.size ag.heap.size (some ⟨G,0,none⟩) (cnt v.op) (eQ v))/\V (Kept 0 0 w W)) (λi _=>cnt v.op-(intOf i).toNat)
 case atStart=>exact⟨0,yae,rfl,b9,p,ab,bW,bD⟩
 case round=>
  obtain⟨q,am,rfl,aU,av,bJ,a6,aw⟩:=hrel;clear b9 p ab bW bD;by_cases aC:q<cnt v.op
  ·rcases a6.o.at_ with bC|⟨bw,bh,b4,aN,a2,bk,bq⟩
   ·omega
   have c1:=bq q aC;cases b4
   obtain⟨o,al⟩:∃o:Nat,(eQ v).getD q 0=o/\o<k:=by
    have h:=List.all_eq_true.1 H1.o ((eQ v).getD q 0) (by
     rw[yai,yam (by rw[iz];exact aC)]
     exact List.getElem_mem _)
    have:=of_decide_eq_true h;exact⟨((eQ v).getD q 0).toNat,by omega,by omega⟩
   rw[al.1,Nat.zero_add]at c1;obtain⟨O,m1,d1,c2,c3⟩:=bJ.o.at_ o xaa;have c4:=c3 al.2;obtain⟨bH,H,bu,c5,_⟩:=aU.o.at_ q xaa;have cF:=aU.o.free q
   have R1:V (LV (wr.setCell ⟨w.heap.size+1,q,none⟩ (.slice O m1 d1)) (w.heap.size+1) 3 3 (opl v ai (q+1))):=by
    have:=aU.o.put (j:=q) xaa rfl (Kept.refl _ _ _) c4;rw[<-JV v ai xaa,<-zu v aC,al.1];exact this
   have K:Kept (w.heap.size+1) (w.heap.size+2) wr (wr.setCell ⟨w.heap.size+1,q,none⟩ (.slice O m1 d1)):=eP _ _ _ yac;have R2:V _:=av.o.keep (hM aU.o.lt) K (.inl xaa);have R3:V _:=bJ.o.other (hM aX.o) c5 (iC _ _ _) (.slice O m1 d1);have z:V _:=a6.o.keep K (.inr (.inl (hM b7.o)));have cj:V _:=aw.o.new K xaa;have R:q<3:=xaa;have C:o<n:=xaa;clear aN a2 bk bq c3 c4 K aU av bJ a6 aw H1 al;go_wp2;go_roundw;exact⟨q+1,by omega,by go_num,R1,R2,R3,z,cj⟩;simp[intOf];omega
  obtain rfl:q=cnt v.op:=xaa;obtain⟨bH,H,bu,c0,bc⟩:=aU.o.at_ 0 xaa;obtain⟨O,m1,d1,c1,e1⟩:=aU.o.at_ 1 xaa;obtain⟨ax,b2,d2,c2,e2⟩:=aU.o.at_ 2 xaa;have HE:V _:=zm wr v N _ _ _ _ _ _ (bc xaa) (e1 xaa) (e2 xaa) (km (bo.o _));obtain⟨bF,a9,ba,be,bi,s⟩:=av.o;clear bc e1 e2 aU bJ a6;go_wp2_with fail;refine yaj HE.o ?_;rintro e bg ⟨u,rfl,aD,cB⟩;obtain⟨bN,n9,X,zs,rfl,J,h3,a0⟩:=aD;have U:V _:=aw.o.trans cB;have R2:V (Cn bg w.heap.size (.slice bN n9 X) (kop v ai)):=⟨bN,n9,X,zs,rfl,J,h3.mono aw.o.size yad,a0⟩
  clear HE c0 c1 c2 bF a9 ba be bi s J h3 a0 cB aw av;go_wp2;go_ret;exact⟨bN,n9,X,rfl,R2.o,U.o⟩
theorem Bf(w)(v:Vl)(g n c m cb k b xss ai)(bJ:LV w g n k ai)(aZ:SS w b m xss)(bG:k<=n)(N:v.k<18446744073709551616)(bf:iT ai)(ae:v.op=0->0<=v.a/\v.a<m)(B:v.op≠0->(eQ v).all (fJ · k)=true):
  Calls prog 30 #[v.agg,hC g n c,.slice b m cb] w λe I=>∃aI r aH,e=.returned (.slice aI r aH)/\Cl I (.slice aI r aH) (one xss v ai)/\Kept 0 0 w I:=by
 unfold one;by_cases h:v.op=0
 ·rw[hG h];have:=uS w v.len v.a v.b v.c v.k g n c m cb b xss aZ (ae h).1 (ae h).2;rw[<-h]at this;exact this
 rw[hF h];exact(pR w v h g n c m cb k b ai bJ bG N bf (B h)).mono λ_ _ ⟨aI,r,aH,aL,aJ,bS⟩=>⟨aI,r,aH,aL,aJ.cl,bS⟩
theorem Gx(al:okV ins vs i=true)(ae:(vs.getD i hI).op≠0)(F:Int->List Nat)(bp:∀o∈eQ (vs.getD i hI),((F o).length:Int)=(vs.getD o.toNat hI).len)(K):
  (iN (vs.getD i hI).op (vs.getD i hI).len (vs.getD i hI).c K (if 0<cnt (vs.getD i hI).op then F (vs.getD i hI).a else[]) (if 1<cnt (vs.getD i hI).op then F (vs.getD i hI).b else[]) (if 2<cnt (vs.getD i hI).op then F (vs.getD i hI).c else[])).length=(vs.getD i hI).len.toNat/\1<=(vs.getD i hI).len.toNat:=by
 have b9:=of_decide_eq_true (jB al);unfold okV at al;generalize vs.getD i _=v at al b9 bp ae⊢;rw[Bool.and_eq_true,Bool.and_eq_true]at al;obtain⟨⟨B,J⟩,h3⟩:=al;rw[hF ae,Bool.and_eq_true]at h3;have ar:=h3.2;have ad:=f9 v.op;refine⟨?_,by omega⟩;rw[zj];unfold jm;rw[B,Bool.true_and];unfold eQ at ar bp;rcases (by omega:cnt v.op=0\/cnt v.op=1\/cnt v.op=2\/cnt v.op=3) with e|e|e|e
 ·rw[e]at ar⊢;exact ar
 ·rw[e]at ar bp⊢;simp only[List.take_succ_cons,List.take_zero,List.map_cons,List.map_nil,List.mem_cons,List.not_mem_nil,or_false,forall_eq]at ar bp⊢;rw[hG xaa,bp];exact ar
 ·rw[e]at ar bp⊢;simp only[List.take_succ_cons,List.take_zero,List.map_cons,List.map_nil]at ar bp⊢;rw[hG xaa,hG xaa,bp _ xac,bp _ xac];exact ar
 rw[e]at ar bp⊢;simp only[List.take_succ_cons,List.take_zero,List.map_cons,List.map_nil]at ar bp⊢;rw[hG xaa,hG xaa,hG xaa,bp _ xac,bp _ xac,bp _ xac];exact ar
def ofC(us:List Vl)(v:Vl):Bool:=((eQ v).all λo=>(us.getD o.toNat hI).op==1)&&v.op !=0
theorem DN(h:cnt v.op=0):eQ v=[]:=by unfold eQ;rw[h];rfl
theorem rJ(bJ:Lk us ao):nU ao v=(ofC us v&&decide (0<cnt v.op)):=by
 unfold nU ofC
 have e:((eQ v).all λo=>(ao.getD o.toNat hI).op==1)=((eQ v).all λo=>(us.getD o.toNat hI).op==1):=by
  congr 1;funext o;have:=congrArg Vl.op (bJ.at_ o.toNat);have e:(us.getD _ _).op=(ao.getD o.toNat _).op:=this;rw[e]
 rw[e];by_cases c:0<cnt v.op
 ·have ae:v.op≠0:=λh=>by rw[h]at c;exact absurd c xab
  simp[c,ae]
 simp[c]
theorem Pi{op}(h:0<=op/\op<=13)(ad:¬0<cnt op)(ae:op≠0):op=1:=by
 unfold cnt at ad;split at ad
 ·omega
 split at ad
 ·omega
 split at ad
 ·omega
 omega
theorem Nk(bJ:Lk us ao)(h:ofC us v=false):jr ao v=v/\v.op≠1:=by
 constructor
 ·unfold jr;rw[hF (λc=>by rw[rJ bJ,h]at c;exact absurd c.1 xac)]
 intro c;unfold ofC at h;rw[DN (by rw[c];decide),c]at h;simp at h
def zv(us:List Vl)(Vs:List (List Nat))(i:Nat):Prop:=∀j,j<i->(us.getD j hI).op=1->fO (Vs.getD j []) (List.replicate (us.getD j hI).len.toNat (us.getD j hI).k)
theorem zw(bJ:Lk us ao)(f:zv us ai i)(al:∀o∈eQ v,0<=o/\o<i)(ad:ofC us v=true):∀o∈eQ v,fO (ai.getD o.toNat []) (qe ao o):=by
 intro o h;have hb:=al o h;unfold ofC at ad;rw[Bool.and_eq_true]at ad;have B:=List.all_eq_true.1 ad.1 o h;rw[beq_iff_eq]at B;exact gJ (f _ xaa B) (vK bJ o)
theorem rK(v ai):kop v ai=iN v.op v.len v.c v.k (if 0<cnt v.op then ai.getD v.a.toNat [] else[]) (if 1<cnt v.op then ai.getD v.b.toNat [] else[]) (if 2<cnt v.op then ai.getD v.c.toNat [] else[]):=rfl
theorem DO(bJ:Lk us ao)(f:zv us ai i)(al:∀o∈eQ v,0<=o/\o<i)(ad:ofC us v=true)(bf:iT ai)(s:Kb ao):fO (kop v ai) (mq ao v):=by
 have aU:=zw bJ f al ad;have c3:=f9 v.op;rw[rK];unfold mq;refine mn ?_ ?_ ?_ (km (bf _)) (km (pB s _))
 ·by_cases c:0<cnt v.op
  ·rw[hG c,hG c];exact aU _ (gm xaa)
  rw[hF c,hF c];rfl
 ·by_cases c:1<cnt v.op
  ·rw[hG c,hG c];exact aU _ (jd xaa)
  rw[hF c,hF c];rfl
 by_cases c:2<cnt v.op
 ·rw[hG c,hG c];exact aU _ (lU xaa)
 rw[hF c,hF c];rfl
theorem JW(aH:uni zs=true)(ab:zs.length=n):fO zs (List.replicate n (zs.getD 0 0)):=by
 unfold uni at aH;rw[Bool.and_eq_true]at aH;unfold fO;rw[List.map_replicate,List.eq_replicate_iff];refine⟨by simp[ab],λb hb=>?_⟩;obtain⟨x,ak,rfl⟩:=List.mem_map.1 hb;exact beq_iff_eq.1 (List.all_eq_true.1 aH.2 x ak)
theorem zx(h:okV ins vs i=true)(B:(vs.getD i hI).op=1):(vs.getD i hI).a=0/\(vs.getD i hI).b=0/\(vs.getD i hI).c=0:=by
 unfold okV at h;generalize vs.getD i _=v at*;rw[Bool.and_eq_true,Bool.and_eq_true]at h;have ar:=h.1.2;unfold gg at ar;have e1:cnt v.op=0:=by rw[B];decide
 have e2:iU v.op=false:=by rw[B];decide
 rw[e1,e2,B]at ar;refine⟨?_,?_,?_⟩
 ·by_cases c:v.a=0
  ·exact c
  simp[c]at ar
 ·by_cases c:v.b=0
  ·exact c
  simp[c]at ar
 by_cases c:v.c=0
 ·exact c
 simp[c]at ar
theorem ui{len C K}(h:(iN 1 len C K [] [] []).length=n):iN 1 len C K [] [] []=List.replicate n K:=by
 subst h;unfold iN;split
 ·rw[List.eq_replicate_iff];refine⟨rfl,λb hb=>?_⟩;obtain⟨x,_,rfl⟩:=List.mem_map.1 hb;unfold gU;rw[hG rfl]
 rfl
theorem Nl(bN:okV ins vs i=true)(bJ:Lk us ao)(f:zv us ai i)(ad:ofC us (vs.getD i hI)=true)(bf:iT ai)(s:Kb ao)(b9:∀j,j<i->(us.getD j hI).len=(vs.getD j hI).len)(r:∀j,j<i->0<=(us.getD j hI).len)(bi:fO zs (kop (vs.getD i hI) ai)):
  zs.length=(vs.getD i hI).len.toNat/\1<=zs.length/\(uni zs=true->cv ⟨1,(vs.getD i hI).len,0,0,0,zs.getD 0 0⟩=cv (jr ao (vs.getD i hI))/\fO (kop (vs.getD i hI) ai) (List.replicate (vs.getD i hI).len.toNat (zs.getD 0 0)))/\(uni zs=false->jr ao (vs.getD i hI)=vs.getD i hI/\(vs.getD i hI).op≠1):=by
 have al:=i6 bN;have av:=nD bN
 have ae:(vs.getD i _).op≠0:=λc=>by
  unfold ofC at ad
  rw[c]at ad
  simp at ad
 have p:=Gx bN ae _ (λo h=>by
  have hb:=al o h
  have ar:=iZ (zw bJ f al ad o h)
  rw[ar]
  have e:(ao.getD o.toNat _).len=(us.getD _ _).len:=(congrArg Vl.len (bJ.at_ _)).symm
  unfold qe
  rw[List.length_replicate,e,<-b9 _ xaa]
  have:=r o.toNat xaa
  omega) (vs.getD i hI).k
 rw[<-rK]at p;have m:zs.length=(vs.getD i hI).len.toNat:=by rw[iZ bi];exact p.1
 have N:=DO bJ f al ad bf s;have t:=zx bN;generalize vs.getD i _=v at*;refine⟨m,by omega,λaH=>⟨?_,?_⟩,λaH=>?_⟩
 ·have a9:=gJ bi N;by_cases cp:0<cnt v.op
  ·have hb:nU ao v=true:=by rw[rJ bJ,ad];simpa using cp
   have b4:uni (mq ao v)=true:=by rw[<-pA a9];exact aH
   unfold jr;rw[hG ⟨hb,b4⟩];unfold cv;simp only;rw[gD a9 0]
  have B:=Pi av cp ae;have hb:nU ao v=false:=by rw[rJ bJ];simp[cp]
  unfold jr;rw[hF (λc=>by rw[hb]at c;exact absurd c.1 xac)];obtain⟨e1,e2,af⟩:=t B
  have e4:fb (zs.getD 0 0)=fb v.k:=by
   rw[gD bi 0,rK,hF cp,hF xaa,hF xaa,B];have am:=p.1;rw[rK,hF cp,hF xaa,hF xaa,B]at am;rw[ui am];have:0<v.len.toNat:=xaa;rw[yai,List.getElem?_replicate,hG this];rfl
  unfold cv;simp only;rw[B,e1,e2,af,e4]
 ·exact gJ (rE bi) (JW aH m)
 have a9:=gJ bi N;by_cases cp:0<cnt v.op
 ·unfold jr;rw[hF (λc=>by rw[<-pA a9,aH]at c;exact absurd c.2 xac)];exact⟨rfl,λc=>by rw[c]at cp;exact absurd cp xab⟩
 exfalso;have B:=Pi av cp ae;have am:=p.1;rw[rK,hF cp,hF xaa,hF xaa,B]at am bi;rw[ui am]at bi;rw[pA bi]at aH;unfold uni at aH;have:0<v.len.toNat:=xaa
 rw[List.length_replicate,List.all_eq_true.2 (λx ak=>by
  rw[List.eq_of_mem_replicate ak,yai,List.getElem?_replicate,hG this];simp)]at aH
 simp[this]at aH
theorem uT(w v g n c us)(h:VA w g n us)(al:∀o∈eQ v,0<=o/\o<n):
  Calls prog 91 #[v.agg,hC g n c] w λe I=>e=.returned (.bool (ofC us v))/\Kept 0 0 w I:=by
 have ad:=f9 v.op;have an:=ez 0 0 w (fB v.op v.len v.a v.b v.c v.k);have bn:V _:=i5 w v;have bL:V _:=h.keep an yaa;have HK:V _:=an;have HO:V _:=al;have b7:V (w.heap.size<(w.alloc (fB v.op v.len v.a v.b v.c v.k)).heap.size):=by show _<_;simp
 clear h al an;obtain⟨bI,bB,bE,b6,ct,bo⟩:=bn.o;go_enter func91,ntmps91;go_wp2_with fail;clear bI bB bE b6 ct bo;generalize w.alloc _=aO at bn bL HK b7⊢;refine yaj (nu _ v) ?_;rintro e ag ⟨C,rfl,(bW:V _),B,ah⟩;have cd:V _:=bn.o.keep b7.o ah yaa;have p:V _:=bL.o.keep ah yaa;have bD:V _:=HK.o.trans ah;clear B ah bn bL HK;go_wp2_with fail;go_loop [10] (λx=>∃q:Nat,q<=cnt v.op/\x=hD q/\V (((eQ v).take q).all (λo=>(us.getD o.toNat hI).op==1)=true)) (λx=>cnt v.op-(intOf x).toNat)
 case atStart=>exact⟨0,yae,rfl,rfl⟩
 case round=>
  obtain⟨q,am,rfl,aU⟩:=hrel;by_cases s:q<cnt v.op
  ·have f:q<(eQ v).length:=by rw[iz];exact s
   have aB:=HO.o _ (gY f);obtain⟨m,em,aq⟩:∃m:Nat,(eQ v).getD q 0=m/\m<n:=⟨((eQ v).getD q 0).toNat,by omega,by omega⟩
   obtain⟨bw,bh,bx,b4,aF,_,_,af⟩:=bW.o.at_idx (o:=q) xaa xaa;cases b4;rw[Int.toNat_natCast,em,Nat.zero_add]at af;obtain rfl:q=bx:=xaa;have c2':=(p.o.at_ m aq).c0;cases t:((us.getD m hI).op !=1)
   ·have U:V (((eQ v).take (q+1)).all (λo=>(us.getD o.toNat hI).op==1)=true):=by
     show _=_;rw[yau f,List.all_append,aU.o];have e2:(eQ v)[q]=m:=by rw[<-em,yai,yam f];rfl
     rw[e2];simpa using t
    generalize (us.getD m _).op=y at c2' t;clear aB em f aU;go_wp2;go_round
    case rel=>exact⟨q+1,by omega,by go_num,U⟩
    case measure=>simp[intOf];omega
   have U:V (ofC us v=false):=by
    show _=_;unfold ofC;rw[List.all_eq_false.2 ⟨_,gY f,by rw[em,Int.toNat_natCast];simpa using t⟩];rfl
   generalize (us.getD m _).op=y at c2' t;clear aB em f aU;go_wp2;go_ret;exact⟨hS U.o,bD.o⟩
  obtain rfl:q=cnt v.op:=xaa
  have U:V (ofC us v=(v.op !=0)):=by
   show _=_;have:=aU.o;rw[yap (by rw[iz];omega)]at this;unfold ofC;rw[this,Bool.true_and]
  obtain⟨bI,bB,bE,b6,ct,bo⟩:=cd.o;clear aU;go_wp2;go_ret;exact⟨hS U.o,bD.o⟩
theorem JX(w lo hi a n c zs)(f:FS w lo hi a n zs)(hn:1<=n)(ce:n<=1000):
  Calls prog 92 #[.slice a n c] w λe I=>e=.returned (.bool (uni zs))/\w=I:=by
 rcases f.at_ with z|⟨g,off,rfl,_,_,_,ad⟩
 ·omega
 have aI:V _:=ad;have HL:V _:=f.len;have c0:=ad 0 xaa;rw[Nat.add_zero]at c0;have au:V (∀x w,Calls _ _ _ w λe I=>e=.returned (.bool (fb x==fb (zs.getD 0 0)))/\I=w):=λx w=>(yo x _ w).mono λ_ _ h=>⟨by rw[h.1,sM],h.2⟩
 clear ad f;go_enter func92,ntmps92;go_wp2_with fail;go_loop [7] (λx=>∃k:Nat,k<=n/\x=hD k/\V ((zs.take k).all (λx=>fb x==fb (zs.getD 0 0))=true)) (λx=>n-(intOf x).toNat)
 case atStart=>exact⟨0,yae,rfl,rfl⟩
 case round=>
  obtain⟨k,N,rfl,aU⟩:=hrel;by_cases aC:k<n
  ·have aa:k<zs.length:=by rw[HL.o];exact aC
   have c1:=aI.o k aC;have bW:V _:=au.o (zs.getD k 0);cases t:(fb (zs.getD k 0)==fb (zs.getD 0 0))
   ·have U:V (uni zs=false):=by
     show _=_;unfold uni;rw[List.all_eq_false.2 ⟨zs.getD k 0,by rw[yai,yam aa];exact List.getElem_mem _,by rw[t];simp⟩,Bool.and_false]
    rw[t]at bW;generalize zs.getD k 0=x at c1 bW;generalize zs.getD 0 0=bI at c0 bW;clear t aU au;go_wp2_with ((go_at_call 134;refine yaj (bW.o _) ?_;rintro e ag ⟨rfl,rfl⟩));go_ret;exact⟨hS U.o,rfl⟩
   have U:V ((zs.take (k+1)).all (λx=>fb x==fb (zs.getD 0 0))=true):=by
    show _=_;exact xfw
   rw[t]at bW;generalize zs.getD k 0=x at c1 bW;clear t aU au;generalize zs.getD 0 0=bI at c0 bW U;go_wp2_with ((go_at_call 134;refine yaj (bW.o _) ?_;rintro e ag ⟨rfl,rfl⟩));exact xcg
  obtain rfl:k=n:=xaa
  have U:V (uni zs=true):=by
   show _=_;have:=aU.o;rw[yap (hR HL.o)]at this;unfold uni;rw[this,HL.o];simp;omega
  clear aU;go_wp2;go_ret;exact⟨hS U.o,rfl⟩
theorem Cn.keepR{v}(f:Cn w lo v xs)(k:Kept l h w I)(ab:h<=lo\/h<=l):Cn I lo v xs:=by
 obtain⟨b,n,c,zs,B,J,h3,a0⟩:=f;exact⟨b,n,c,_,B,J,(h3.keep k xaa).mono yad k.size,a0⟩
theorem Cn.setS(f:Cn w lo y xs)(ad:w.cell? ⟨g,k,none⟩=some u)(aH:∀x,u≠.float .f64 x)(v):Cn (w.setCell ⟨g,k,none⟩ v) lo y xs:=by
 obtain⟨b,n,c,zs,B,J,h3,a0⟩:=f;exact⟨b,n,c,_,B,J,(h3.setS ad aH v).mono yad xac,a0⟩
theorem Cn.low{au}(f:Cn w lo y xs)(h:au<=lo):Cn w au y xs:=by
 obtain⟨b,n,c,zs,B,J,h3,a0⟩:=f;exact⟨b,n,c,_,B,J,h3.mono h yad,a0⟩
structure LW(w:World)(lo g n:Nat)(Vs:List (List Nat)):Prop where
 lt:g<w.heap.size
 len:Vs.length=n
 free:∀o,w.frozen? ⟨g,o,none⟩=false
 at_:∀j,j<n->∃b m c,w.cell? ⟨g,j,none⟩=some (.slice b m c)/\Cn w lo (.slice b m c) (Vs.getD j [])
theorem LW.lv(f:LW w lo g n ai):LV w g n n ai:=
 ⟨f.lt,f.free,λj hj=>by
  obtain⟨b,m,c,B,J⟩:=f.at_ j hj
  exact⟨b,m,c,B,λ_=>J.cl⟩⟩
theorem LW.keepR(f:LW w lo g n ai)(k:Kept l h w I)(ab:h<=lo\/h<=l)(aR:g<l\/h<=g\/h<=l):LW I lo g n ai:=
 ⟨yak f.lt k.size,f.len,λo=>by rw[k.frozen f.lt (by simp only;omega)];exact f.free o,λj hj=>by
  obtain⟨b,m,c,B,J⟩:=f.at_ j hj
  exact⟨b,m,c,by rw[k.cell f.lt (by simp only;omega)];exact B,J.keepR k ab⟩⟩
theorem LW.made(w:World)(n lo):LW (w.alloc (.cells (madeCells #[.slice none 0 0] n) 48)) lo w.heap.size n (List.replicate n []) where
 lt:=by simp
 len:=by simp
 free:=λo=>by simp
 at_:=λj hj=>by
  rw[yav]
  refine⟨none,0,0,?_,?_⟩
  ·simp only[madeCells]
   rw[Array.getElem?_map,Array.getElem?_range,hG hj]
   have aq:=Nat.mod_one j
   simp[aq]
  ·rw[yai,List.getElem?_replicate,hG hj]
   exact⟨_,0,0,_,rfl,yad,⟨rfl,by simp,.inl rfl⟩,rfl⟩
theorem LW.put{w lo g n j ai}(f:LW w lo g n ai)(hj:j<n){b m c x}(aH:Cn w lo (.slice b m c) x):LW (w.setCell ⟨g,j,none⟩ (.slice b m c)) lo g n (ai.set j x):=by
 obtain⟨bH,H,c0,ad,_⟩:=f.at_ j hj;refine⟨by simpa using f.lt,by rw[List.length_set];exact f.len,λo=>by simp[f.free o],λi hi=>?_⟩;by_cases e:i=j
 ·subst e;refine⟨b,m,c,fD _ _ _ _ _ ad,?_⟩;rw[yai,List.getElem?_set,hG rfl,hG (hO f.len hi)];exact aH.setS ad (iC _ _ _) _
 obtain⟨O,m1,c1,B,J⟩:=f.at_ i hi;refine⟨_,_,_,by rw[eM _ _ _ _ _ _ (.inr (Ne.symm e))];exact B,?_⟩;rw[yai,List.getElem?_set,hF (Ne.symm e),<-yai];exact J.setS ad (iC _ _ _) _
structure FI(W w1:World)(g2 L n2 i:Nat)(vs us:List Vl)(Vs:List (List Nat)):Prop where
 va:VA W g2 n2 (us++vs.drop i)
 len:us.length=i
 lk:Lk us (fU vs i)
 kb:Kb us
 lw:LW W w1.heap.size L n2 Vs
 wd:iT Vs
 hd:zv us Vs i
 ch:Chg (λb=>b=g2\/b=L) w1 W
theorem DP(h:iT ai)(i)(ak:∀q∈x,q<18446744073709551616):iT (ai.set i x):=by
 intro k q am;rw[yai,List.getElem?_set]at am;split at am
 ·split at am
  ·exact ak q am
  simp at am
 rw[<-yai]at am;exact h k q am
theorem DQ(h:zv us ai i)(ab:us.length=i)(aD:v.op≠1):zv (us++[v]) ai (i+1):=by
 intro j hj al;by_cases c:j<i
 ·rw[gX _ _ xaa]at al⊢;exact h j c al
 have:j=us.length:=xaa;subst this;rw[ij]at al;exact absurd al aD
theorem Gy(h:zv us ai i)(ab:us.length=i)(hi:i<ai.length)(ak:fO x (List.replicate v.len.toNat v.k)):zv (us++[v]) (ai.set i x) (i+1):=by
 intro j hj al;rw[yai,List.getElem?_set];by_cases c:j<i
 ·rw[gX _ _ xaa]at al⊢;rw[hF xaa,<-yai];exact h j c al
 have:j=us.length:=xaa;subst this;rw[ij]at al⊢;rw[hG ab.symm,hG hi];exact ak
theorem zy(hi:i<vs.length):us++vs.drop i=(us++[vs.getD i hI])++vs.drop (i+1):=by
 rw[rz hi];simp
theorem FI.stay{W aO ap L}(f:FI W aO ap L T i vs us ai)(k:Kept 0 0 W W')(hi:i<vs.length)(s:Kb vs)(B:jr (fU vs i) (vs.getD i hI)=vs.getD i hI)(J:(vs.getD i hI).op≠1):FI W' aO ap L T (i+1) vs (us++[vs.getD i hI]) ai where
 va:=by rw[<-zy hi];exact f.va.keep k yaa
 len:=by rw[yal,f.len];rfl
 lk:=by rw[fU,B];exact f.lk.app rfl
 kb:=f.kb.app (s.at_ i)
 lw:=f.lw.keepR k yab yaa
 wd:=f.wd
 hd:=DQ f.hd f.len J
 ch:=Chg.trans f.ch k.chg
theorem JY{U}(h:∀o∈eQ v,0<=o/\o<us.length):ofC (us++U) v=ofC us v:=by
 unfold ofC;congr 1;rw[Bool.eq_iff_iff,List.all_eq_true,List.all_eq_true]
 have au:∀o∈eQ v,(us++U).getD o.toNat hI=us.getD o.toNat _:=λo al=>by
  exact xha
 constructor
 ·intro q o al;rw[<-au o al];exact q o al
 intro q o al;rw[au o al];exact q o al
theorem FI.put{W W' aB aO ap L T i vs us ai nv b m c x}(f:FI W aO ap L T i vs us ai)(k:Kept 0 0 W W')(p:Kept 0 0 (nW W' ap (i*6) nv) aB)(hi:i<T)(cu:vs.length=T)(aR:ap<aO.heap.size)(z:ap≠L)(cT:Cn W' aO.heap.size (.slice b m c) x)
  (B:cv nv=cv (jr (fU vs i) (vs.getD i hI))) (N:nv.k<18446744073709551616) (ak:∀q∈x,q<18446744073709551616) (ar:fO x (List.replicate nv.len.toNat nv.k)):
  LW aB aO.heap.size L T ai/\FI (aB.setCell ⟨L,i,none⟩ (.slice b m c)) aO ap L T (i+1) vs (us++[nv]) (ai.set i x):=by
 have K:=kY W' ap (i*6) nv;have e:=((f.lw.keepR k yab yaa).keepR K (.inl xaa) xaa).keepR p yab yaa;have t:=(cT.keepR K (.inl xaa)).keepR p yab;have r:=((f.va.keep k yaa).step i hi _).keep p yaa;rw[sN f.len xaa]at r;have s:=eP (lo:=L) (hi:=L+1) aB ⟨L,i,none⟩ (.slice b m c) yac;refine⟨e,⟨r.keep s xaa,by rw[yal,f.len];rfl,by rw[fU];exact f.lk.app B,f.kb.app N,e.put hi t,DP f.wd i ak,Gy f.hd f.len (hO f.lw.len hi) ar,?_⟩⟩;exact Chg.trans f.ch (Chg.trans k.chg (Chg.trans (K.chg1 (.inl rfl)) (Chg.trans p.chg (s.chg1 (.inr rfl)))))
structure DI(W w4:World)(T n2 base gk cap:Nat)(S:List Vl×List Int):Prop where
 tq:IR W T S.2
 tl:S.2.length=n2
 own:W.ownsRow base 60 6 (.slice (some ⟨gk,0,none⟩) S.1.length cap) S.1.length (fK S.1)
 ch:Chg (λb=>b=T\/base<=b) w4 W
 bz:base<=W.heap.size
theorem oO(F vs):∀i,(gI F vs i).2.length=vs.length/\(gI F vs i).1.length<=i
 |0=>⟨by simp[gI],yad⟩
 |i+1=>by
  obtain⟨B,J⟩:=oO F vs i
  rw[gI]
  split
  ·exact⟨by simp[B],by simp;omega⟩
  ·exact⟨B,by omega⟩
theorem DI.stay{W}(f:DI W bj bl T base gk cap S)(k:Kept 0 0 W W'):DI W' bj bl T base gk cap S:=
 ⟨f.tq.keep k yaa,f.tl,eR f.own k,Chg.trans f.ch k.chg,yao f.bz k.size⟩
theorem DI.next{W cj g9 cap9 x nv o}(f:DI W bj bl T base gk cap S)(k:Kept 0 0 W W')(bU:Kept 0 0 (W'.setCell ⟨bl,i,none⟩ (hD x)) cj)(bh:bl<base)
  (aZ:bg.ownsRow base 60 6 (hC g9 (S.1.length+1) cap9) (S.1.length+1) (fK S.1++nv.cells)) (aR:(cj.alloc o).grownBy bg (some gk)) (X:base<=gk):DI bg bj bl T base g9 cap9 (S.1++[nv],S.2.set i x):=by
 have s:=eP (lo:=bl) (hi:=bl+1) W' ⟨bl,i,none⟩ (hD x) yac;have bx:=ez 0 0 cj o;have aP:=(((f.tq.keep k yaa).set i x).keep bU yaa).keep bx yaa;have bD:Chg _ _ _:=⟨aR.os,aR.tape,aR.output,aR.size,λq am hn=>aR.block q am (λc=>hn (hH c))⟩
 refine⟨aP.keepC bD xaa,by simp[f.tl],?_,?_,?_⟩
 ·rw[yal,List.length_singleton,kC,mV];exact aZ
 ·refine Chg.trans f.ch (Chg.trans k.chg (Chg.trans (s.chg1 (.inl rfl)) (Chg.trans bU.chg (Chg.trans bx.chg (bD.mono λb _ c=>.inr xaa)))))
 have B:=f.bz;have J:=k.size;have h3:=s.size;have a0:=bU.size;have bz:=bx.size;have bP:=bD.size;omega
theorem rL(w:World)(bH O ax):RB (w.alloc (.cells #[bH,O,ax] 26)) w.heap.size bH O ax:=by
 exact xiu
theorem Cb(h:F.getD i false=true):gI F vs (i+1)=((gI F vs i).1++[rnm ((gI F vs i).2.set i (gI F vs i).1.length) (vs.getD i hI)],(gI F vs i).2.set i (gI F vs i).1.length):=by
 rw[gI,hG h]
theorem uj(h:F.getD i false=false):gI F vs (i+1)=gI F vs i:=by
 rw[gI,hF (by rw[h];simp)]
theorem kO{P a m}(f b c):(store a (.func f b c) m).run P w=stored P w a (.func f b c) m:=run_store P w a _ m rfl
attribute[local go_sem] kO
theorem JZ(w g off m cap n)(xs:List Int)(ak:xs.length=m)(aq:m<=1000)(ad:∀k,k<m->w.cell? ⟨g,off+k,none⟩=some (hD (xs.getD k 0))):
  Calls prog 24 #[hD n,.slice (some ⟨g,off,none⟩) m cap] w λe I=>e=.returned (.bool (xs.all (fJ · n)))/\w=I:=by
 have bc:V _:=ad;have bn:V _:=ak;clear ad ak;go_enter func24,ntmps24;go_wp2_with fail;go_loop [9] (λi=>∃k:Nat,k<=m/\i=hD k/\V ((xs.take k).all (fJ · n)=true)) (λi=>m-(intOf i).toNat)
 case atStart=>exact⟨0,yae,rfl,rfl⟩
 case round=>
  obtain⟨k,N,rfl,aU⟩:=hrel;by_cases aC:k<m
  ·have c:=bc.o k aC;cases t:fJ (xs.getD k 0) n
   ·have U:V (xs.all (fJ · n)=false):=by
     show _=_;rw[List.all_eq_false];exact⟨_,gY (hO bn.o aC),by show ¬fJ _ _=true;rw[t];decide⟩
    have bW:V _:=iu (xs.getD k 0) n w;rw[t]at bW;generalize xs.getD k 0=x at c bW;clear t;go_wp2_with fail;refine yaj bW.o ?_;rintro e ag ⟨rfl,an⟩;have R3:V _:=an.symm;clear an;go_wp2;go_ret;exact⟨hS U.o,R3.o⟩
   have U:V ((xs.take (k+1)).all (fJ · n)=true):=by
    show _=_;rw[yau (hO bn.o aC),List.all_append,aU.o];rw[yai,yam (hO bn.o aC)]at t;simpa using t
   have bW:V _:=iu (xs.getD k 0) n w;rw[t]at bW;generalize xs.getD k 0=x at c bW;clear t;go_wp2_with fail;refine yaj bW.o ?_;rintro e ag ⟨rfl,rfl⟩;exact xcx
  obtain rfl:k=m:=xaa
  have U:V (xs.all (fJ · n)=true):=by
   exact xik
  clear aU;go_wp2;go_ret;exact⟨hS U.o,rfl⟩
theorem J0(w a cap n):Calls prog 24 #[hD n,.slice a 0 cap] w λe I=>e=.returned (.bool true)/\w=I:=by
 go_enter func24,ntmps24;exact xhp
theorem J1(w lo hi a m cap n xs)(f:IS w lo hi a m xs)(aq:m<=1000):Calls prog 24 #[hD n,.slice a m cap] w λe I=>e=.returned (.bool (xs.all (fJ · n)))/\w=I:=by
 rcases f.at_ with z|⟨g,off,rfl,_,_,_,ad⟩
 ·subst z;have:=List.length_eq_zero_iff.1 f.len;subst this;exact J0 w a _ n
 exact JZ w g _ m _ n _ f.len aq ad
structure AP(W:World)(A:Nat):Prop where
 lt:A<W.heap.size
 p0:W.cell? ⟨A,0,none⟩=some (.func (.func 54) #[] #[])
 p1:W.cell? ⟨A,1,none⟩=some (.func (.func 55) #[] #[])
 p2:W.cell? ⟨A,2,none⟩=some (.func (.func 56) #[] #[])
 p3:W.cell? ⟨A,3,none⟩=some (.func (.func 57) #[] #[])
 p4:W.cell? ⟨A,4,none⟩=some (.func (.func 58) #[] #[])
theorem AP.keepC{W S A}(t:AP W A)(k:Chg S W W')(G:¬S A):AP W' A:=by
 have e:∀o,_:=λo=>k.cell (p:=⟨A,o,none⟩) t.lt G;exact⟨yak t.lt k.size,hO e t.p0,hO e t.p1,hO e t.p2,hO e t.p3,hO e t.p4⟩
abbrev L8:Value:=.agg #[.func (.func 54) #[] #[],.func (.func 55) #[] #[],.func (.func 56) #[] #[],.func (.func 57) #[] #[],.func (.func 58) #[] #[]]
abbrev Gz:Obj:=.cells #[.func (.func 54) #[] #[],.func (.func 55) #[] #[],.func (.func 56) #[] #[],.func (.func 57) #[] #[],.func (.func 58) #[] #[]] 55
theorem GA(w:World):AP (w.alloc Gz) w.heap.size:=by
 exact xfs
theorem DR(w):Calls prog 25 #[] w λe I=>e=.returned L8/\Kept 0 0 w I:=by
 go_enter func25,ntmps25;go_wp2;refine yaz (v:=L8) (by simp[results,results25,go_sem]) rfl ⟨rfl,?_⟩;exact ez _ _ _ _
abbrev Cc(w:World)(g:Nat)(x y z:Value):World:=((w.setCell ⟨g,0,none⟩ x).setCell ⟨g,1,none⟩ y).setCell ⟨g,2,none⟩ z
end
section
open Flt Ieee
variable{x:Nat}
theorem xI{op y}(ak:x<18446744073709551616)(B:∀s r,r<9218868437227405312->floatBits op .f64 (W s r) y=some (W s r))
  (J:∀s,floatBits op .f64 (W s 9218868437227405312) y=some (W s 9218868437227405312)):fb (cop op x y)=fb x:=by
 obtain⟨s,r,av,rfl⟩:=jl x ak;rcases Nat.lt_trichotomy r 9218868437227405312 with h|rfl|h
 ·unfold cop;rw[B s r h];rfl
 ·unfold cop;rw[J s];rfl
 rw[nh h av];unfold cop;rw[kj _ (by show(double.read _).isNaN=true;rw[od h av];rfl)];exact mS xab
theorem GC:p2 52*p2 (E 4607182418800017408)=p2 1074:=by rw[show E 4607182418800017408=1022 by decide,<-ri]
theorem val_one:val 4607182418800017408=p2 1074:=by rw[sX,show M 4607182418800017408=p2 52 by decide,GC]
theorem mul_one(ak:x<18446744073709551616):fb (cop .mul x 4607182418800017408)=fb x:=by
 refine xI ak (λs r h=>?_) (λs=>?_)
 ·have:=CN (s:=s) (t:=false) (q:=4607182418800017408) h xab h (by rw[val_one]);rw[Bool.xor_false]at this;exact this
 show double.mul _ (W false 4607182418800017408)=_;unfold Format.mul;rw[kI,gW xab];cases s<;>decide
theorem div_one(ak:x<18446744073709551616):fb (cop .quo x 4607182418800017408)=fb x:=by
 refine xI ak (λs r h=>?_) (λs=>?_)
 ·have:=CO (s:=s) (t:=false) (q:=4607182418800017408) h xab h xab (by rw[GC]);rw[Bool.xor_false]at this;exact this
 show double.div _ (W false 4607182418800017408)=_;unfold Format.div;rw[kI,gW xab];cases s<;>decide
theorem sub_zero(ak:x<18446744073709551616):fb (cop .sub x 0)=fb x:=by
 refine xI ak (λs r h=>?_) (λs=>?_)
 ·exact CR (s:=s) (t:=false) (q:=0) h xab h (by rw[kJ];simp[sg]) (λ_=>by simp)
 show double.sub _ (W false 0)=_;unfold Format.sub;rw[kI,CL];cases s<;>decide
theorem vM(ak:x<18446744073709551616):fb (cop .add x 9223372036854775808)=fb x:=by
 refine xI ak (λs r h=>?_) (λs=>?_)
 ·exact CQ (s:=s) (t:=true) (q:=0) h xab h (by rw[kJ];simp[sg]) (λ_=>by simp)
 show double.add _ (W true 0)=_;unfold Format.add;rw[kI,gW xab];cases s<;>decide
theorem GD{op}(h:op=.add\/op=.mul)(x y):cop op x y=cop op y x:=by
 unfold cop
 have e:floatBits op .f64 x y=floatBits op .f64 y x:=by
  rcases h with rfl|rfl
  ·show double.add x y=double.add y x;unfold Format.add;congr 1;cases double.read x<;>cases double.read y<;>simp only[Datum.sum]
   ·rename_i s m i t n j;rw[Int.min_comm i j,Int.add_comm,Bool.and_comm]
   rename_i s t;by_cases c:s=t
   ·subst c;rfl
   rw[hF c,hF (λd=>c d.symm)]
  show double.mul x y=double.mul y x;unfold Format.mul;congr 1;cases double.read x<;>cases double.read y<;>simp only[Datum.product]
  ·rename_i s m i t n j;rw[Bool.xor_comm,Nat.mul_comm,Int.add_comm]
  rw[Bool.xor_comm]
 rw[e]
theorem J2(ak:x<18446744073709551616):Op.negFloat .f64 (Op.negFloat .f64 x)=x:=by
 obtain⟨s,r,av,rfl⟩:=jl x ak;rw[ym s av,ym _ av,Bool.not_not]
end
section
open Go.RowKit Flt
variable{op len C:Int}{ins tq outs:List Int}{xss A R:List (List Nat)}{us vs:List Vl}{j i K k:Nat}{u v:Vl}{P az aB:List Nat}
theorem Nm(h:op≠11)(h':op≠12)(len C C' K P az aB):iN op len C K P az aB=iN op len C' K P az aB:=by
 unfold iN
 have e:gU op C K P az aB=gU op C' K P az aB:=by
  funext k;unfold gU;simp[h,h']
 have e2:jm op len C P.length az.length aB.length=jm op len C' P.length az.length aB.length:=by unfold jm eY;simp[h,h']
 rw[e,e2]
theorem rN{r}(e1:u.op=v.op)(e2:u.len=v.len)(G:u.k=v.k)(af:cnt v.op<1->fO (xss.getD u.a.toNat []) (r.getD v.a.toNat []))(bo:cnt v.op<3->u.c=v.c)(f:iT A)(g:iT R)
  (F:0<cnt v.op->fO (A.getD u.a.toNat []) (R.getD v.a.toNat [])) (hb:1<cnt v.op->fO (A.getD u.b.toNat []) (R.getD v.b.toNat [])) (ad:2<cnt v.op->fO (A.getD u.c.toNat []) (R.getD v.c.toNat [])):fO (one xss u A) (one r v R):=by
 unfold one;rw[e1,e2,G];by_cases ae:v.op=0
 ·rw[hG ae,hG ae];exact af (by rw[ae];decide)
 rw[hF ae,hF ae]
 have au:∀(q:Prop) [Decidable q] (x y:List _),(q->fO x y)->fO (if q then x else[]) (if q then y else[]):=λq _ x y h=>by
  by_cases c:q
  ·rw[hG c,hG c];exact h c
  ·rw[hF c,hF c];rfl
 have e:iN v.op v.len u.c v.k=iN v.op v.len v.c v.k:=by
  by_cases c:cnt v.op<3
  ·rw[bo c]
  funext a b d;exact Nm (λh=>c (by rw[h];decide)) (λh=>c (by rw[h];decide)) _ _ _ _ _ _ _
 rw[e];exact mn (au _ _ _ F) (au _ _ _ hb) (au _ _ _ ad) (km (f _)) (km (g _))
theorem Cd(f:iT A)(g:iT R)(h:∀o∈eQ v,fO (A.getD (tq.getD o.toNat 0).toNat []) (R.getD o.toNat [])):fO (one xss (rnm tq v) A) (one xss v R):=by
 refine rN rfl rfl rfl (λc=>?_) (λc=>?_) f g (λc=>?_) (λc=>?_) (λc=>?_)
 ·unfold rnm;simp only;rw[hF xaa];rfl
 ·unfold rnm;simp only;rw[hF xaa]
 ·have:=h _ (gm xaa);unfold rnm;simp only;rw[hG c];exact this
 ·have:=h _ (jd xaa);unfold rnm;simp only;rw[hG c];exact this
 have:=h _ (lU xaa);unfold rnm;simp only;rw[hG c];exact this
theorem nJ{xss us vs}:∀i,(∀j,j<i->us.getD j hI=vs.getD j hI)->eX xss us i=eX xss vs i
 |0,_=>rfl
 |i+1,h=>by rw[eX,eX,nJ i (λj hj=>h j xaa),h i xaa]
theorem uk(xss us u):eX xss (us++[u]) (us.length+1)=eX xss us us.length++[one xss u (eX xss us us.length)]:=by
 rw[eX,nJ _ (λj hj=>gX _ u hj),ij]
theorem pD(x)(h:j<A.length):(A++[x]).getD j []=A.getD j []:=by
 exact xhx
theorem qf(x)(h:j=A.length):(A++[x]).getD j []=x:=by
 rw[h,yai,yas yad,Nat.sub_self];rfl
theorem oP(h:k<(iN op len C K P az aB).length):(iN op len C K P az aB).getD k 0=gU op C K P az aB k:=by
 unfold iN at h⊢;split at h
 ·rename_i c;rw[hG c];have h':k<len.toNat:=by simpa using h
  simp[List.getD_eq_getElem?_getD,h']
 cases h
theorem DU(op len C K e P az aB):(iN op len C K P az aB).length=(iN op len C e P az aB).length:=by
 unfold iN;by_cases c:jm op len C P.length az.length aB.length=true
 ·rw[hG c,hG c];simp
 rw[hF c,hF c]
theorem sQ(hj:j<i)(h:∀o∈eQ (us.getD j hI),0<=o/\o<j):(eX xss us i).getD j []=one xss (us.getD j hI) (eX xss us i):=by
 have e:∀q,q<=i->∀m,m<q->_:=λq am m aq=>by
  have:=vI xss us (i:=q) (j:=m) (i-q) aq
  rwa [show q+(i-q)=i by omega]at this
 rw[e _ hj j yaf,jw];generalize us.getD j _=v at h;have au:∀o∈eQ v,(eX _ _ j).getD o.toNat _=(eX _ _ i).getD _ _:=λo al=>(e j xaa _ (hM (h o al))).symm;have bx:0<cnt v.op->_:=λc=>au _ (gm xaa);have bZ:1<cnt v.op->_:=λc=>au _ (jd xaa);have f:2<cnt v.op->_:=λc=>au _ (lU xaa);unfold one;congr 2
 ·by_cases c:0<cnt v.op
  ·rw[hG c,hG c,bx c]
  rw[hF c,hF c]
 ·by_cases c:1<cnt v.op
  ·rw[hG c,hG c,bZ c]
  rw[hF c,hF c]
 by_cases c:2<cnt v.op
 ·rw[hG c,hG c,f c]
 rw[hF c,hF c]
theorem vN(h:f8 u v=true):fO (one xss u A) (one xss v A):=by
 unfold f8 at h;simp only[Bool.and_eq_true,beq_iff_eq,Bool.or_eq_true,bne_iff_ne]at h;obtain⟨⟨aL,aJ,bS,au,ck⟩,J⟩:=h;unfold one;rw[aL,aJ,bS,au,ck];rw[aL]at J;split
 ·rfl
 rcases J with J|J
 ·rw[Bb J _ _ _ v.k];rfl
 by_cases c:v.op=1
 ·rw[c];have ab:=DU 1 v.len v.c u.k v.k (if 0<cnt 1 then A.getD v.a.toNat [] else[]) (if 1<cnt 1 then A.getD v.b.toNat [] else[]) (if 2<cnt 1 then A.getD v.c.toNat [] else[]);refine pi ab λk N=>?_;rw[oP N,oP (hQ ab N)];exact J
 rw[Bb c _ _ _ v.k];rfl
theorem zB{b c}(hb:b.toNat<i)(h:isC us b c=true):∀k,k<((eX xss us i).getD b.toNat []).length->fb (((eX xss us i).getD b.toNat []).getD k 0)=c:=by
 unfold isC at h;rw[Bool.and_eq_true,beq_iff_eq,beq_iff_eq]at h;rw[sQ hb (λo al=>by unfold eQ at al;rw[h.1]at al;simp[cnt]at al)];intro k N;unfold one at N⊢;rw[h.1]at N⊢;rw[hF xab]at N⊢;rw[oP N];exact h.2
theorem GE{op}(h:v.op=2/\op=.add\/v.op=3/\op=.sub\/v.op=4/\op=.mul\/v.op=5/\op=.quo)(N:k<(one xss v A).length):(one xss v A).getD k 0=cop op ((A.getD v.a.toNat []).getD k 0) ((A.getD v.b.toNat []).getD k 0):=by
 have c2:cnt v.op=2:=uM xaa;unfold one at N⊢;rw[hF xaa]at N⊢;rw[oP N,c2];unfold gU;rcases h with⟨h,rfl⟩|⟨h,rfl⟩|⟨h,rfl⟩|⟨h,rfl⟩<;>rw[h]<;>rfl
theorem rO(h:∀j,j<i->okV ins us j=true):(List.range i).all (okV ins us)=true:=List.all_eq_true.2 λj hj=>h j (List.mem_range.1 hj)
theorem GF(h:0<(iN op len C K P az aB).length):(iN op len C K P az aB).length=len.toNat:=by
 unfold iN at h⊢;by_cases c:jm op len C P.length az.length aB.length=true
 ·rw[hG c];simp
 rw[hF c]at h;cases h
theorem cO.qct(h:Zp:=by
 rw[Int.toNat_natCast];refine⟨hj,?_⟩;rw[sQ hj (λo al=>(E.opr _ hj o al).1),a6];exact vN bu):Zp:=h
theorem cO.qfd(h:Zp:=by
 have r:((one xss (rnm S.2 (vs.getD i hI)) (eX xss S.1 i)).length:Int)=(rnm S.2 (vs.getD i hI)).len:=by
  have:=m4 (vs:=S.1++[rnm S.2 (vs.getD i hI)]) hi (i+1) (rO λj hj=>?_) i yaf
  ·rw[af,jw,af,nJ i (λj hj=>gX S.1 _ (by rw[E.l1];exact hj))]at this;exact this
  by_cases c:j<i
  ·exact nw (by rw[E.l1];exact c) (E.ok j c)
  rw[show j=i by omega];exact bN
 have g:∀o∈eQ (rnm S.2 (vs.getD i hI)),((rnm S.2 (vs.getD i hI)).op=2\/(rnm S.2 (vs.getD i hI)).op=3\/(rnm S.2 (vs.getD i hI)).op=4\/(rnm S.2 (vs.getD i hI)).op=5\/(rnm S.2 (vs.getD i hI)).op=6)->o.toNat<i/\(S.1.getD o.toNat hI).len=(rnm S.2 (vs.getD i hI)).len:=by
  intro o al Z;have:=qD bN (hO af Z) o (hO af al);have hb:=(bD o al).1;rw[af,gX _ _ (by rw[E.l1];omega)]at this;exact⟨by omega,this⟩
 generalize rnm S.2 _=v at*
 have n:∀o,o∈eQ v->(v.op=2\/v.op=3\/v.op=4\/v.op=5\/v.op=6)->(∀k,k<((eX xss S.1 i).getD o.toNat []).length->k<(one xss v (eX xss S.1 i)).length->fb (((eX xss S.1 i).getD o.toNat []).getD k 0)=fb ((one xss v (eX xss S.1 i)).getD k 0))->
   o=(i:Int)\/o.toNat<i/\fO ((eX xss S.1 i).getD o.toNat []) (one xss v (eX xss S.1 i)):=λo al Z N=>by
  obtain⟨B,J⟩:=g o al Z
  have h3:=l _ B
  have ab:((eX xss S.1 i).getD o.toNat []).length=(one xss v (eX xss S.1 i)).length:=xaa
  exact .inr ⟨B,pi ab λk q=>N k q xaa⟩
 have bin:∀(op:BinOp) (c:Nat),(v.op=2/\op=.add\/v.op=3/\op=.sub\/v.op=4/\op=.mul\/v.op=5/\op=.quo)->fb c=c->(∀x,x<18446744073709551616->fb (cop op x c)=fb x)->isC S.1 v.b c=true->_:=λop c al ad ak hi=>by
  have c2:=uM (op:=v.op) xaa
  refine n v.a (gm xaa) xaa λk B J=>?_
  rw[GE al J]
  obtain⟨O,ax⟩:=g v.b (jd xaa) xaa
  have h3:=l _ O
  have e:=zB (xss:=xss) O hi k xaa
  rw[gl op rfl (e.trans ad.symm)]
  exact(ak _ (fR (f _) k)).symm
 have m:∀(op:BinOp) (c:Nat),(v.op=2/\op=.add\/v.op=3/\op=.sub\/v.op=4/\op=.mul\/v.op=5/\op=.quo)->(op=.add\/op=.mul)->fb c=c->(∀x,x<18446744073709551616->fb (cop op x c)=fb x)->isC S.1 v.a c=true->_:=λop c al aq ad ak hi=>by
  have c2:=uM (op:=v.op) xaa
  refine n v.b (jd xaa) xaa λk B J=>?_
  rw[GE al J]
  obtain⟨O,ax⟩:=g v.a (gm xaa) xaa
  have h3:=l _ O
  have e:=zB (xss:=xss) O hi k xaa
  rw[gl op (e.trans ad.symm) rfl,GD aq]
  exact(ak _ (fR (f _) k)).symm
 unfold fQ;by_cases aV:p=1
 ·rw[hG aV];by_cases a9:S.1.findIdx (f8 · v)<S.1.length
  ·right;exact qcs
  exact xid
 rw[hF aV];by_cases z:p=3
 ·rw[hG z];by_cases c:v.op=6/\(S.1.getD v.a.toNat hI).op=6
  ·rw[hG c];right;have aA:1<=cnt v.op:=by rw[c.1];decide
   obtain⟨a1,Y⟩:=g _ (gm aA) xaa;have T:1<=cnt (S.1.getD v.a.toNat hI).op:=by rw[c.2];decide
   have J:=E.opr _ a1 _ (gm T);have h3:=qD (E.ok _ a1) xaa _ (gm T);have b1:=l _ a1;have ce:=l (S.1.getD v.a.toNat hI).a.toNat xaa;refine⟨by omega,pi xaa λk N=>?_⟩
   have neg:∀u:Vl,u.op=6->∀q,q<(one xss u (eX xss S.1 i)).length->(one xss u (eX xss S.1 i)).getD q 0=Op.negFloat .f64 (((eX xss S.1 i).getD u.a.toNat []).getD q 0):=λu aH q am=>by
    unfold one at am⊢
    rw[aH]at am⊢
    rw[hF xab]at am⊢
    rw[oP am]
    rfl
   have e2:=sQ (xss:=xss) a1 (λo al=>(E.opr _ a1 o al).1);rw[neg v c.1 k xaa,e2,neg _ c.2 k (by rw[<-e2];omega),J2 (fR (f _) k)]
  rw[hF c];left;rfl
 rw[hF z];by_cases c:(v.op=4\/v.op=5)/\isC S.1 v.b 4607182418800017408=true
 ·rw[hG c];rcases c.1 with d|d
  ·exact bin .mul _ (by simp[d]) xab (λx=>mul_one) c.2
  exact bin .quo _ (by simp[d]) xab (λx=>div_one) c.2
 rw[hF c];clear c;by_cases c:v.op=4/\isC S.1 v.a 4607182418800017408=true
 ·rw[hG c];exact m .mul _ (by simp[c.1]) (.inr rfl) xab (λx=>mul_one) c.2
 rw[hF c];clear c;by_cases c:v.op=3/\isC S.1 v.b 0=true
 ·rw[hG c];exact bin .sub _ (by simp[c.1]) xab (λx=>sub_zero) c.2
 rw[hF c];clear c;by_cases c:v.op=2/\isC S.1 v.b 9223372036854775808=true
 ·rw[hG c];exact bin .add _ (by simp[c.1]) xab (λx=>vM) c.2
 rw[hF c];clear c;by_cases c:v.op=2/\isC S.1 v.a 9223372036854775808=true
 ·rw[hG c];exact m .add _ (by simp[c.1]) (.inl rfl) xab (λx=>vM) c.2
 rw[hF c];exact .inl rfl):Zp:=h
open cO in
theorem Bg{S}(E:EqI ins vs i S)(aZ:Kb S.1)(ak:iT xss)(hi:inB ins xss=true)(h:okV ins vs i=true)(p):
  fQ p S.1 (rnm S.2 (vs.getD i hI)) i=i\/(fQ p S.1 (rnm S.2 (vs.getD i hI)) i).toNat<i/\fO ((eX xss S.1 i).getD (fQ p S.1 (rnm S.2 (vs.getD i hI)) i).toNat []) (one xss (rnm S.2 (vs.getD i hI)) (eX xss S.1 i)):=by
 have bD:=pr E h;have bN:=AE E h;have f:=j9 ak (λk=>aZ.at_ k) i;have l:=m4 (vs:=S.1) hi i (rO E.ok);exact qfc
theorem GG{ins xss vs}(ak:iT xss)(hi:inB ins xss=true)(N:Kb vs)(p):∀i,(∀j,j<i->okV ins vs j=true)->∀j,j<i->fO ((eX xss (fA p vs i).1 i).getD ((fA p vs i).2.getD j 0).toNat []) ((eX xss vs i).getD j [])
 |0,_,j,hj=>by omega
 |i+1,h,j,hj=>by
  have aa:=GG ak hi N p i (λj hj=>h j xaa)
  have E:=lV ins vs p i (λj hj=>h j xaa)
  have sv:=Bg (xss:=xss) E (lG N p i) ak hi (h i xaa) p
  have f:=j9 ak (λk=>(lG N p i).at_ k) i
  have g:=j9 ak (λk=>N.at_ k) i
  have al:=Cd (xss:=xss) (tq:=(fA p vs i).2) (v:=vs.getD i hI) f g λo al=>aa _ (hM (i6 (h i xaa) o al))
  unfold fA
  generalize fA p vs i=S at*
  have am:=uk xss S.1 (rnm S.2 (vs.getD i hI))
  rw[E.l1]at am
  have l:=iB xss S.1 i
  simp only
  rw[am]
  by_cases c:j<i
  ·have t:=E.to0 j c
   rw[pq _ _ (by rw[E.l2];exact c),pD _ (hR l),iX _ _ c]
   exact aa j c
  ·have:j=i:=xaa
   subst this
   have:=nz S.2 (fQ p S.1 (rnm S.2 (vs.getD j hI)) j)
   rw[E.l2]at this
   rw[this,jw]
   rcases sv with e|⟨e1,e2⟩
   ·rw[e,qf _ (hR l)]
    exact al
   ·rw[pD _ (by rw[l];exact e1)]
    exact gJ e2 al
theorem GH{ins F xss vs}(ak:iT xss)(N:Kb vs)(aD:∀j,j<vs.length->okV ins vs j=true)(bp:∀i,i<vs.length->F.getD i false=true->∀o∈eQ (vs.getD i hI),F.getD o.toNat false=true):∀i,i<=vs.length->∀j,j<i->F.getD j false=true->
  fO ((eX xss (gI F vs i).1 (gI F vs i).1.length).getD ((gI F vs i).2.getD j 0).toNat []) ((eX xss vs i).getD j [])
 |0,_,j,hj,_=>by omega
 |i+1,hi,j,hj,a9=>by
  have aa:=GH ak N aD bp i xaa
  have D:=sK aD bp i xaa
  have h:=pC N F i
  rw[gI]
  by_cases c:F.getD i false=true
  ·rw[hG c]
   generalize gI F vs i=S at*
   have ay:∀j,j<vs.length->(S.2.set i S.1.length).getD j 0=if i=j then (S.1.length:Int)else S.2.getD j 0:=λj hj=>wW _ _ _ _ (hO D.l2 hj)
   have f:iT (eX xss S.1 S.1.length):=j9 ak (λk=>h.at_ k) _
   have g:=j9 ak (λk=>N.at_ k) i
   have al:=Cd (xss:=xss) (tq:=S.2.set i S.1.length) (v:=vs.getD i hI) f g λo al=>by
    have hb:=i6 (aD i xaa) o al
    rw[ay _ xaa,hF xaa]
    exact aa _ xaa (bp i xaa c o al)
   simp only[yal,List.length_singleton]
   rw[uk,ay j xaa]
   by_cases e:i=j
   ·subst e
    rw[hG rfl,jw,qf _ (by rw[iB];omega)]
    exact al
   ·have t:=D.to0 j xaa a9
    rw[hF e,iX _ _ xaa,pD _ (by rw[iB];omega)]
    exact aa j xaa a9
  ·rw[hF c]
   have:j≠i:=λe=>c (e ▸ a9)
   rw[iX _ _ xaa]
   exact aa j xaa a9
theorem DV{o}(al:o.toNat<i)(h:(us.getD o.toNat hI).op=1)(ab:lenB (us.getD o.toNat hI).len=true):(eX xss us i).getD o.toNat []=qe us o:=by
 rw[sQ al (λq am=>by unfold eQ at am;rw[h]at am;simp[cnt]at am)];unfold one qe;rw[h,hF xab];unfold iN;rw[hG (by unfold jm;rw[ab];rfl)];refine List.ext_getElem xac λk B J=>?_;simp[gU]
theorem zC{ins xss vs}(ak:iT xss)(N:Kb vs):∀i,(∀j,j<i->okV ins vs j=true)->∀j,j<i->fO ((eX xss (fU vs i) i).getD j []) ((eX xss vs i).getD j [])
 |0,_,j,hj=>by omega
 |i+1,h,j,hj=>by
  have aa:=zC ak N i (λj hj=>h j xaa)
  have f:=j9 ak (λk=>(lu N i).at_ k) i
  have g:=j9 ak (λk=>N.at_ k) i
  have ab:=kr vs i
  have bN:=rG (ins:=ins) (vs:=vs) i (λj hj=>h j xaa)
  have aD:=h i xaa
  have br:=i6 aD
  have am:=uk xss (fU vs i) (jr (fU vs i) (vs.getD i hI))
  rw[ab]at am
  rw[fU,am]
  generalize fU vs i=S at*
  by_cases c:j<i
  ·rw[pD _ (by rw[iB];exact c),iX _ _ c]
   exact aa j c
  ·have:j=i:=xaa
   subst this
   rw[qf _ (by rw[iB]),jw]
   have Z:=jB aD
   generalize vs.getD j hI=v at*
   have al:fO (one xss v (eX xss S j)) (one xss v (eX xss vs j)):=rN rfl rfl rfl (λ_=>rfl) (λ_=>rfl) f g (λc=>aa _ (hM (br _ (gm xaa)))) (λc=>aa _ (hM (br _ (jd xaa)))) (λc=>aa _ (hM (br _ (lU xaa))))
   refine gJ ?_ al
   unfold jr
   by_cases q:nU S v=true/\uni (mq S v)=true
   ·rw[hG q]
    obtain⟨aL,aJ⟩:=q
    unfold nU at aL
    rw[Bool.and_eq_true,decide_eq_true_eq,List.all_eq_true]at aL
    have bd:∀o∈eQ v,(eX xss S j).getD o.toNat []=qe S o:=λo al=>by
     have hb:=br o al
     exact DV xaa (beq_iff_eq.1 (aL.2 o al)) (jB (bN _ xaa))
    have aZ:one xss v (eX xss S j)=mq S v:=by
     unfold one mq;rw[hF (λc=>by have:=aL.1;rw[c]at this;exact absurd this xab)];congr 1
     ·by_cases c:0<cnt v.op
      ·rw[hG c,hG c,bd _ (gm xaa)]
      rw[hF c,hF c]
     ·by_cases c:1<cnt v.op
      ·rw[hG c,hG c,bd _ (jd xaa)]
      rw[hF c,hF c]
     ·by_cases c:2<cnt v.op
      ·rw[hG c,hG c,bd _ (lU xaa)]
      ·rw[hF c,hF c]
    rw[aZ]
    unfold uni at aJ
    rw[Bool.and_eq_true,decide_eq_true_eq,zp]at aJ
    have e:(mq S v).length=v.len.toNat:=GF aJ.1
    have lo:one xss ⟨1,v.len,0,0,0,(mq S v).getD 0 0⟩ (eX xss S j)=List.replicate v.len.toNat ((mq S v).getD 0 0):=by
     unfold one;simp only;rw[hF xab];unfold iN;rw[hG (by unfold jm;rw[Z];rfl)];refine List.ext_getElem xac λk B J=>?_
     simp[gU]
    rw[lo]
    refine pi (by simp[e]) λk N=>?_
    have av:k<v.len.toNat:=by simpa using N
    rw[beq_iff_eq.1 (aJ.2 k (hO e av))]
    simp[List.getD_eq_getElem?_getD,av]
   ·rw[hF q];rfl
theorem Ce(h:k<outs.length):(kH tq outs).getD k 0=tq.getD (outs.getD k 0).toNat 0:=by
 unfold kH;simp[List.getD_eq_getElem?_getD,h]
theorem GI(p)(h:okG ins vs outs=true):(ja p vs outs).1.length<=vs.length/\(ja p vs outs).2.length=outs.length:=by
 obtain⟨_,_,h3,a0,_⟩:=fW h;unfold ja;split
 ·have bp:∀i,i<vs.length->(ndI vs outs vs.length).getD i false=true->_:=λi hi bp o al=>nC h3 vs.length yad i xaa hi bp o al;have D:=sK h3 bp vs.length yad;exact⟨D.l1,by simp[kU,kH]⟩
 split
 ·exact⟨by rw[kr];exact yad,rfl⟩
 exact⟨by unfold eqM;rw[(qC p vs _).1];exact yad,by simp[eqM,kH]⟩
theorem GJ(p)(h:okG ins vs outs=true)(ak:iT xss)(hi:inB ins xss=true)(N:Kb vs)(c:k<outs.length):
  fO ((eX xss (ja p vs outs).1 (ja p vs outs).1.length).getD ((ja p vs outs).2.getD k 0).toNat []) ((eX xss vs vs.length).getD (outs.getD k 0).toNat []):=by
 obtain⟨_,_,h3,a0,_⟩:=fW h;have al:=a0 (outs.getD k 0) (by rw[yai,yam c];exact List.getElem_mem _);unfold ja;split
 ·have bp:∀i,i<vs.length->(ndI vs outs vs.length).getD i false=true->_:=λi hi bp o al=>nC h3 vs.length yad i xaa hi bp o al;unfold kU;simp only;rw[Ce c];exact GH ak N h3 bp vs.length yad _ xaa (tF a0 _ _ (by rw[yai,yam c];exact List.getElem_mem _))
 split
 ·simp only;rw[kr];exact zC ak N _ h3 _ xaa
 unfold eqM;simp only;rw[Ce c,(qC p vs _).1];exact GG ak hi N p _ h3 _ xaa
theorem rP{ins xss r us vs}(ab:Lk us vs)(ak:∀j,fO (xss.getD j []) (r.getD j []))(cl:iT xss)(p:iT r)(aj:Kb us)(ah:Kb vs):∀i,(∀j,j<i->okV ins vs j=true)->∀j,j<i->fO ((eX xss us i).getD j []) ((eX r vs i).getD j [])
 |0,_,j,hj=>by omega
 |i+1,h,j,hj=>by
  have aa:=rP ab ak cl p aj ah i (λj hj=>h j xaa)
  have f:=j9 cl (λk=>aj.at_ k) i
  have g:=j9 p (λk=>ah.at_ k) i
  by_cases c:j<i
  ·rw[iX _ _ c,iX _ _ c]
   exact aa j c
  ·have:j=i:=xaa
   subst this
   rw[jw,jw]
   have br:=i6 (h j xaa)
   have e:=ab.at_ j
   generalize us.getD j _=u at*
   generalize vs.getD j _=v at*
   unfold cv at e
   injection e with e1 e2 af e4 bo G
   refine gJ (vN ?_) (rN rfl rfl rfl (λ_=>ak _) (λ_=>rfl) f g (λc=>aa _ (hM (br _ (gm xaa)))) (λc=>aa _ (hM (br _ (jd xaa)))) (λc=>aa _ (hM (br _ (lU xaa)))))
   unfold f8
   simp[e1,e2,af,e4,bo,G]
