import Derived.Test.YtcagphgmfbjneaaGreatP24
namespace Go.Proofs.Z
variable{Zp:Prop}
open Tryz Go.RowKit Flt
set_option maxRecDepth 1000000
set_option maxHeartbeats 0
section
theorem DW{ins vs i}(h:okV ins vs i=true)(hi:i<=2000)(ai:ins.length<=20)(aV:∀j,j<i->lenB (vs.getD j h9).len=true):
  (0<=(vs.getD i h9).op/\(vs.getD i h9).op<=13)/\(0<=(vs.getD i h9).len/\(vs.getD i h9).len<=2000)/\(0<=(vs.getD i h9).a/\(vs.getD i h9).a<=2000)/\(0<=(vs.getD i h9).b/\(vs.getD i h9).b<=2000)/\(0<=(vs.getD i h9).c/\(vs.getD i h9).c<=2000):=by
 have b4:=nu h;have ct:=of_decide_eq_true (uf h);have hops:=sV h;have be:1<=cnt _->_:=λc=>hops _ (qF c);have a7:2<=cnt _->_:=λc=>hops _ (sW c);have aj:3<=cnt _->_:=λc=>hops _ (sX c);unfold okV at h;generalize aN:vs.getD i _=v at*;rw[Bool.and_eq_true,Bool.and_eq_true]at h;obtain⟨⟨_,S⟩,d⟩:=h
 have f:cnt v.op<1->v.op≠0->v.a=0:=λc c0=>by
  unfold fF at S
  by_cases e:v.a=0
  ·exact e
  ·simp[c,c0,e]at S
 have a:cnt v.op<2->v.b=0:=λc=>by
  unfold fF at S
  by_cases e:v.b=0
  ·exact e
  ·simp[c,e]at S
 have cx:cnt v.op<3->g7 v.op=false->v.c=0:=λc b7=>by
  unfold fF at S
  by_cases e:v.c=0
  ·exact e
  ·simp[c,b7,e]at S
 have b:v.op=0->_:=λc=>by
  rw[h7 c,Bool.and_eq_true]at d
  exact of_decide_eq_true d.1
 have cF:g7 v.op=true->0<=v.c/\v.c<=1000:=λc=>by
  have aQ:=of_decide_eq_true c
  rw[h6 xaa,Bool.and_eq_true]at d
  have aw:=d.2
  unfold eQ at aw
  have c1:cnt v.op=1:=by rcases aQ with e|e<;>rw[e]<;>decide
  have az:=be xaa
  have m:=of_decide_eq_true (aV v.a.toNat xaa)
  have cj:((fo v).map λo=>(vs.getD o.toNat h9).len).getD 0 0=(vs.getD v.a.toNat h9).len:=by
   unfold fo
   rw[c1]
   rfl
  rcases aQ with e|e
  ·rw[h6 xaa,h6 xaa,h7 e,Bool.and_eq_true,cj]at aw
   have:=of_decide_eq_true aw.2
   omega
  ·rw[h6 xaa,h6 xaa,h6 xaa,h7 e,Bool.and_eq_true]at aw
   have:=of_decide_eq_true aw.2
   omega
 refine⟨b4,by omega,?_,?_,?_⟩
 ·by_cases c:1<=cnt v.op
  ·have:=be c;omega
  by_cases c0:v.op=0
  ·have:=b c0;omega
  have:=f xaa c0;omega
 ·by_cases c:2<=cnt v.op
  ·have:=a7 c;omega
  have:=a xaa;omega
 by_cases c:3<=cnt v.op
 ·have:=aj c;omega
 cases aQ:g7 v.op
 ·have:=cx xaa aQ;omega
 have:=cF aQ;omega
end
section
attribute[local go_sem] eE eD eC
variable{w B H:World}{lo base j k n g c:Nat}{bM:Option Nat}{v u:Value}{b:Option Addr}{Q:List (List Nat)}{xs x:List Nat}
theorem FS.setS{hi a}(f:FS w lo hi a n xs)(al:w.cell? ⟨g,k,none⟩=some u)(a6:∀x,u≠.float .f64 x)(v):FS (w.setCell ⟨g,k,none⟩ v) lo hi a n xs:=
 ⟨f.len,f.lt,by
  rcases f.at_ with ak|⟨aC,off,e,F,h2,h3,h4⟩
  ·exact .inl ak
  ·refine .inr ⟨aC,off,e,F,h2,by simpa using h3,λj hj=>?_⟩
   by_cases c:g=aC/\k=off+j
   ·obtain⟨rfl,rfl⟩:=c
    have:=h4 j hj
    rw[al]at this
    injection this with this
    exact absurd this (a6 _)
   ·rw[eV _ _ _ _ _ _ xaa];exact h4 j hj⟩
theorem Cl.setS{y}(f:Cl w y xs)(al:w.cell? ⟨g,k,none⟩=some u)(a6:∀x,u≠.float .f64 x)(v):Cl (w.setCell ⟨g,k,none⟩ v) y xs:=by
 obtain⟨b,n,c,zs,F,h2,h3,h4⟩:=f;exact⟨b,n,c,zs,F,h2,(h3.setS al a6 v).mono yad xac,h4⟩
theorem nY(b n c):∀x,(Value.slice b n c)≠.float .f64 x:=λ_ h=>by cases h
structure LV(w:World)(g n k:Nat)(Vs:List (List Nat)):Prop where
 lt:g<w.heap.size
 free:∀o,w.frozen? ⟨g,o,none⟩=false
 at_:∀j,j<n->∃b m c,w.cell? ⟨g,j,none⟩=some (.slice b m c)/\(j<k->Cl w (.slice b m c) (Vs.getD j []))
theorem LV.keep(f:LV w g n k Q)(q:Kept 0 0 w B):LV B g n k Q:=
 ⟨yak f.lt q.size,λo=>by rw[q.frozen (p:=⟨g,o,none⟩) f.lt xaa];exact f.free o,λj hj=>by
  obtain⟨b,m,c,F,h2⟩:=f.at_ j hj
  exact⟨b,m,c,iI q f.lt F,λh=>(h2 h).keep q⟩⟩
theorem uv(br:Nat->List Nat)(h:j<n):((List.range n).map br).getD j []=br j:=by
 simp[List.getD_eq_getElem?_getD,h]
theorem FS.grown{W zs}(f:FS W 0 W.heap.size b n zs)(aK:W.grownBy H bM)(bc:0<n->∀p,b=some p->bM≠some p.block):FS H 0 H.heap.size b n zs:=
 ⟨f.len,f.lt,by
  rcases f.at_ with ak|⟨aC,off,e,F,h2,h3,h4⟩
  ·exact .inl ak
  ·refine .inr ⟨aC,off,e,F,yak h3 aK.size,yak h3 aK.size,λj hj=>?_⟩
   rw[aK.cell_far ⟨aC,off+j,none⟩ h3 (λc=>bc xaa _ e c.symm)]
   exact h4 j hj⟩
theorem Cl.grown{W}(f:Cl W (.slice b n c) xs)(aK:W.grownBy H bM)(bc:0<n->∀p,b=some p->bM≠some p.block):Cl H (.slice b n c) xs:=by
 obtain⟨S,r,t,zs,e,h2,h3,h4⟩:=f;cases e;exact⟨b,n,c,zs,rfl,h2,h3.grown aK bc,h4⟩
theorem Cl.lt{W}(f:Cl W (.slice b n c) xs)(ag:0<n)(p)(aQ:b=some p):p.block<W.heap.size:=by
 obtain⟨S,r,t,zs,e,h2,h3,h4⟩:=f;cases e;rcases h3.at_ with ak|⟨aC,off,e,F,h2,h3,h4⟩
 ·omega
 rw[e]at aQ;cases aQ;exact h3
theorem Cn.ge{W}(f:Cn W lo (.slice b n c) xs)(ag:0<n)(p)(aQ:b=some p):lo<=p.block:=by
 obtain⟨S,r,t,zs,e,h2,h3,h4⟩:=f;cases e;rcases h3.at_ with ak|⟨aC,off,e,F,h2,h3,h4⟩
 ·omega
 rw[e]at aQ;cases aQ;exact F
def AR(W:World)(base:Nat)(v:Value)(k:Nat)(Vs:List (List Nat)):Prop:=
 ∃us:List Value,W.ownsRow base 56 1 v k us/\∀j,j<k->∃b n c,us[j]? =some (.slice b n c)/\Cl W (.slice b n c) (Vs.getD j [])/\(0<n->∀p,b=some p->v.ownBlock≠some p.block)
theorem AR.nil(W base Q):AR W base (.slice none 0 0) 0 Q:=⟨[],yaw _ _ _ _,λ_ hj=>absurd hj (Nat.not_lt_zero _)⟩
theorem AR.keep{W}(f:AR W base v k Q)(q:Kept 0 0 W H):AR H base v k Q:=by
 obtain⟨us,F,h2⟩:=f;refine⟨us,eN F q,λj hj=>?_⟩;obtain⟨b,n,c,a1,J,a3⟩:=h2 j hj;exact⟨b,n,c,a1,J.keep q,a3⟩
theorem AR.cell{W}(f:AR W base v k Q)(O:0<k):
  ∃g cap,v=h0 g k cap/\base<=g/\g<W.heap.size/\∀j,j<k->∃b n c,W.cell? ⟨g,j,none⟩=some (.slice b n c)/\Cl W (.slice b n c) (Q.getD j [])/\(0<n->∀p,b=some p->g≠p.block):=by
 obtain⟨us,F,h2⟩:=f;rcases F.2 with⟨_,c⟩|⟨g,cap,ad,rfl,U,aV,aa,_,ct,bX⟩
 ·omega
 have aK:g<W.heap.size:=by
  exact xev
 refine⟨g,cap,rfl,U,aK,λj hj=>?_⟩;obtain⟨b,n,c,a1,J,a3⟩:=h2 j hj;refine⟨b,n,c,?_,J,λag p aQ e=>a3 ag p aQ (by rw[<-e];rfl)⟩;rw[cell_of_row W g _ ad _ _ aV,<-Array.getElem?_toList];have:(ad.toList.take (k*1))[j]? =us[j]?:=by rw[bX]
 rw[List.getElem?_take_of_lt xaa]at this;rw[this,a1]
theorem AR.step{W us}(F:W.ownsRow base 56 1 v k us)
  (h2:∀j,j<k->∃b n c,us[j]? =some (.slice b n c)/\Cl W (.slice b n c) (Q.getD j [])/\(0<n->∀p,b=some p->v.ownBlock≠some p.block))
  {o} (aj:Cl W (.slice b n c) x) (ag:0<n->∀p,b=some p->v.ownBlock≠some p.block) {cap}{bn}
  (bU:bn.ownsRow base 56 1 (h0 g (k+1) cap) (k+1) (us++[.slice b n c])) (aK:(W.alloc o).grownBy bn v.ownBlock) (bw:v.ownBlock=some g\/g=(W.alloc o).heap.size)
  {d} (af:∀j,j<k->d.getD j []=Q.getD j []) (bg:d.getD k []=x):AR bn base (h0 g (k+1) cap) (k+1) d:=by
 have ai:us.length=k:=ix F.1
 have bj:=eA 0 0 W o;have aw:W.heap.size<(W.alloc o).heap.size:=by simp
 have Y:∀(b:Option Addr) (n c:Nat) (x:List Nat),Cl W (.slice b n c) x->(0<n->∀p,b=some p->v.ownBlock≠some p.block)->Cl bn (.slice b n c) x/\(0<n->∀p,b=some p->(h0 g (k+1) cap).ownBlock≠some p.block):=λb n c x al aN=>
  ⟨(al.keep bj).grown aK aN,λak p aQ e=>by
    have a2:g=p.block:=by simpa[Value.ownBlock] using e
    rcases bw with h|h
    ·exact aN ak p aQ (by rw[h,a2])
    ·have:=al.lt ak p aQ
     omega⟩
 refine⟨_,bU,λj hj=>?_⟩;by_cases t:j<k
 ·obtain⟨S,r,a,a1,J,a3⟩:=h2 j t;obtain⟨an,av⟩:=Y _ _ _ _ J a3;exact⟨S,r,a,by rw[yat xaa];exact a1,by rw[af j t];exact an,av⟩
 have:j=k:=xaa;subst this;obtain⟨an,av⟩:=Y _ _ _ _ aj ag;exact⟨b,n,c,by rw[yas xaa,ai,Nat.sub_self];rfl,i1 bg an,av⟩
theorem AR.ss{W}(f:AR W base v k Q):∃a cap z,v=.slice a k cap/\SS W a k z/\∀j,j<k->fS (z.getD j []) (Q.getD j []):=by
 rcases Nat.eq_zero_or_pos k with ak|ak
 ·subst ak;obtain⟨us,F,_⟩:=f;rcases F.2 with⟨rfl,_⟩|⟨g,cap,ad,rfl,_⟩
  ·exact⟨none,0,[],rfl,⟨rfl,.inl rfl⟩,λj hj=>absurd hj (Nat.not_lt_zero _)⟩
  exact⟨_,cap,[],rfl,⟨rfl,.inl rfl⟩,λj hj=>absurd hj (Nat.not_lt_zero _)⟩
 obtain⟨g,cap,rfl,_,aK,al⟩:=f.cell ak
 have h:∀j,∃zs:List Nat,j<k->∃b c,W.cell? ⟨g,j,none⟩=some (.slice b zs.length c)/\zs.length<=c/\FS W 0 W.heap.size b zs.length zs/\fS zs (Q.getD j []):=λj=>by
  by_cases hj:j<k
  ·obtain⟨b,m,c,F,h2,_⟩:=al j hj
   obtain⟨S,r,t,zs,e,a1,J,a3⟩:=h2
   cases e
   have e:=J.len
   subst e
   exact⟨zs,λ_=>⟨b,c,F,a1,J,a3⟩⟩
  ·exact⟨[],λc=>absurd c hj⟩
 obtain⟨br,b0⟩:=Classical.axiomOfChoice h;refine⟨_,cap,(List.range k).map br,rfl,⟨by simp,.inr ⟨g,0,rfl,aK,λj hj=>?_⟩⟩,λj hj=>?_⟩
 ·rw[uv br hj,Nat.zero_add];obtain⟨b,c,a1,J,a3,_⟩:=b0 j hj;exact⟨b,c,a1,J,a3⟩
 rw[uv br hj];obtain⟨b,c,_,_,_,a4⟩:=b0 j hj;exact a4
theorem LV.put(f:LV w g n n Q)(hj:j<n)(ai:Q.length=n)(q:Kept 0 0 w B){m}(a6:Cl B (.slice b m c) x):
  LV (B.setCell ⟨g,j,none⟩ (.slice b m c)) g n n (Q.set j x):=by
 have t:=f.keep q;obtain⟨bL,cF,c0,al,_⟩:=t.at_ j hj;refine⟨by simpa using t.lt,λo=>by simp[t.free o],λi hi=>?_⟩;by_cases e:i=j
 ·subst e;refine⟨b,m,c,fy _ _ _ _ _ al,λ_=>?_⟩;rw[yai,List.getElem?_set,h7 rfl,h7 xaa];exact a6.setS al (nY _ _ _) _
 obtain⟨U,m1,c1,F,h2⟩:=t.at_ i hi;refine⟨U,m1,c1,by rw[eV _ _ _ _ _ _ (.inr (Ne.symm e))];exact F,λh=>?_⟩;rw[yai,List.getElem?_set,h6 (Ne.symm e),<-yai];exact(h2 h).setS al (nY _ _ _) _
theorem DX(w:World):LV (w.alloc (.cells #[.slice none 0 0,.slice none 0 0,.slice none 0 0] 206)) w.heap.size 3 3 [[],[],[]] where
 lt:=by simp
 free:=λo=>by simp
 at_:=λj hj=>by
  have:j=0\/j=1\/j=2:=xaa
  refine⟨none,0,0,?_,λ_=>?_⟩
  ·rcases this with rfl|rfl|rfl<;>simp
  ·rcases this with rfl|rfl|rfl<;>exact Cl.nil _
end
section
variable{v:Vl}{w aH am aU H:World}{q P aD Z af ab base ah cap cap' l h':Nat}{xs au ins outs:List Int}{U aa J a2':Option Addr}{R' R:Option Nat}{vs vs2:List Vl}
theorem ja{p}[Decidable p]{a b:List Vl×Int}(az:-1<=a.2)(hb:-1<=b.2):-1<=(if p then a else b).2:=by
 grind
theorem MZ(n d p q N):-1<=(chM n d p q N).2:=by
 unfold chM;grind
theorem Of(i v aQ C S N)(f:-1<=aQ)(aj:-1<=C):-1<=(mvM i v aQ C S N).2:=by
 have z:∀{l:List Vl},-1<=(l,(-1:Int)).2:=by simp
 have n:∀{l:List Vl}{m:Nat},-1<=(l,(m:Int)).2:=xaa;unfold mvM zx zy zB zC;exact ja z (ja (ja aj (ja f n)) (ja (ja f (ja n n)) (ja (ja (ja z n) (ja n n)) (ja (ja (ja z n) (ja n n)) (ja (MZ _ _ _ _ _) (ja (ja z (MZ _ _ _ _ _)) (ja n n)))))))
theorem GJ{j}(h:∀i,-1<=au.getD i 0):-1<=ovs v au q j:=by
 unfold ovs;grind
theorem xX(vs x t):∀k i,-1<=(jst vs x t k).2.getD i 0
 |0,i=>by
  unfold jst
  grind
 |k+1,i=>by
  have N:=xX vs x t k
  unfold jst
  simp only
  rw[yai,List.getElem?_set]
  split
  ·split<;>simp_all[jmv,Of,GJ]<;>grind
  simp_all
theorem CD(vs x t):∀k i,x+k<i->i<vs.length->(jst vs x t k).2.getD i 0=-1
 |0,i,h,hi=>by
  unfold jst
  grind
 |k+1,i,h,hi=>by
  unfold jst
  simp only
  rw[yai,List.getElem?_set,h6 xaa,<-yai]
  exact CD _ x t k i xaa hi
theorem GK{i y}(h:xs.getD i 0=y)(hi:i<xs.length):xs.set i y=xs:=by
 exact xhp
theorem GL(vs x t k)(hi:x+1+k<vs.length)(h:∀j,j<cnt (vs.getD (x+1+k) h9).op->(jst vs x t k).2.getD (fld (vs.getD (x+1+k) h9) j).toNat 0=-1):jst vs x t (k+1)=jst vs x t k:=by
 have e:∀j,ovs _ _ _ j=-1:=λj=>by
  unfold ovs;split
  ·exact h j (by assumption)
  ·rfl
 have bg:jmv vs (x+1+k) (jst vs x t k)=([],-1):=by grind[jmv,mvM]
 conv=>lhs;unfold jst
 rw[bg];simp only[List.append_nil];grind[GK,CD]
def sK(v:Vl)(mv:List Int)(q:Nat):Bool:=(List.range q).any λj=>decide (0<=mv.getD (fld v j).toNat 0)
theorem DY(v au q):sK v au (q+1)=(sK v au q||decide (0<=au.getD (fld v q).toNat 0)):=by
 simp_all[sK,List.range_succ]
theorem BC(h:sK v au q=false)(aK:∀i,-1<=au.getD i 0):∀j,j<q->au.getD (fld v j).toNat 0=-1:=λj hj=>by
 unfold sK at h
 grind
theorem DZ(h:sK v au (cnt v.op)=true):¬(ovs v au (cnt v.op) 0=-1/\ovs v au (cnt v.op) 1=-1/\ovs v au (cnt v.op) 2=-1):=by
 rintro⟨ak,F,h2⟩;unfold sK at h;rw[List.any_eq_true]at h;obtain⟨j,hj,aO⟩:=h;have aW:=List.mem_range.1 hj;grind[ovs,fld]
theorem SG.put2{m1 m3}(h:SG w P U m1 af aa m3 ah vs base R J cap)(k:Kept 0 0 w aH)
  (own:am.ownsRow base 86 6 (.slice a2' vs2.length cap') vs2.length (fN vs2)) (bM:(Value.slice a2' vs2.length cap').ownBlock=R') (s:StQ (λ_=>False) R aH R' am) (av:Kept l h' am aU) (ai:w.heap.size<=l) (K:∀g,R'=some g->g<l\/h'<=g):
  SG (fg aU P (.slice U m1 af) (.slice a2' vs2.length cap') (.slice aa m3 ah)) P U m1 af aa m3 ah vs2 base R' a2' cap'/\StQ (λi=>i=P) R w R' (fg aU P (.slice U m1 af) (.slice a2' vs2.length cap') (.slice aa m3 ah)):=by
 have hlt:=h.lt;have b2:=k.size
 have bc:R'≠some P:=by
  rcases s.row with e|⟨r,e,aF⟩
  ·rw[e];exact h.ne
  grind
 have hb:=s.chg.block P xaa (by rintro (c|c);exact c;exact h.ne c);have cr:P<am.heap.size:=by grind
 have Q:=(av.block P cr xaa).trans hb;have e:∀o,_:=λo=>(World.cell?_of_block Q).trans (k.cell (p:=⟨P,o,none⟩) h.lt xaa);have x:∀o,_:=λo=>(World.frozen?_of_block Q).trans (k.frozen (p:=⟨P,o,none⟩) h.lt xaa);obtain⟨bh,aJ,y2⟩:=fd _ P _ _ _ ((e 0).trans h.c0) ((e 1).trans h.c1) ((e 2).trans h.c2) (.slice U m1 af) (.slice a2' vs2.length cap') (.slice aa m3 ah);have aX:=fk aU P (.slice U m1 af) (.slice a2' vs2.length cap') (.slice aa m3 ah);have d:(Value.slice a2' vs2.length cap').ownBlock≠some P:=by grind
 refine⟨⟨?_,λo=>?_,bh,aJ,y2,eI (eI (eI (fD own av (λg aK=>K g (bM ▸ aK))) d) d) d,bM,bc,?_⟩,⟨?_,?_,?_,?_,λi hi ag=>?_⟩,?_⟩
 ·have:=aX.size;grind[fg]
 ·unfold fg;simp[x o,h.free o]
 ·have:=aX.size;have:=s.chg.size;have:=h.sz;have:=av.size;unfold fg;omega
 ·exact aX.os.trans (av.os.trans (s.chg.os.trans k.os))
 ·exact aX.tape.trans (av.tape.trans (s.chg.tape.trans k.tape))
 ·exact aX.output.trans (av.output.trans (s.chg.output.trans k.output))
 ·have:=aX.size;have:=s.chg.size;have:=av.size;unfold fg;omega
 ·unfold fg;have aR:=s.chg.size;have bd:=av.size;rw[aX.block i xaa (λc=>ag (.inl xaa)),av.block i xaa xaa,s.chg.block i xaa (by grind)];exact k.block i hi xaa
 rcases s.row with c|⟨r,c,aF⟩<;>grind
theorem cD.qcn(h:Zp:=by
 have hb:v.ownBlock=some g:=i4 af
 rw[s.chg.block g aK (by simp_all)];exact aV):Zp:=h
open cD in
theorem tu{e size n:Nat}{v xs W}(o:W.ownsRow base e size v n xs)(s:StQ (λi=>i=P) R W R' H)(hP:v.ownBlock≠some P)(K:∀g,v.ownBlock=some g->R≠some g):H.ownsRow base e size v n xs:=by
 exact qcm
theorem IR.stq{W I}(h:IR W I xs)(s:StQ (λi=>i=P) R W R' H)(hP:I≠P)(K:R≠some I):IR H I xs:=by
 unfold IR;rw[s.chg.block I h.lt (by grind)];exact h
structure LJ(w W:World)(Mb:Nat)(b1:Option Addr)(n1 e1:Nat)(b3:Option Addr)(n3 e3:Nat)(ins outs:List Int)(vs:List Vl)(mv:List Int)(base:Nat)(R:Option Nat)(a2:Option Addr)(cap:Nat):Prop where
 g:SG W w.heap.size b1 n1 e1 b3 n3 e3 vs base R a2 cap
 b:RB W (w.heap.size+1) (.slice none 0 0) (.slice none 0 0) (.slice none 0 0)
 m:IR W Mb mv
 i:W.ownsRow base 3 1 (.slice b1 n1 e1) n1 (ins.map (Value.int .i64))
 o:W.ownsRow base 3 1 (.slice b3 n3 e3) n3 (outs.map (Value.int .i64))
 k:Kept 0 0 w W
 hb:w.heap.size+1+1<=base
 dM:base<=Mb
 rM:R≠some Mb
 a1:Apart (.slice b1 n1 e1) (.slice a2 vs.length cap)
 a3:Apart (.slice b3 n3 e3) (.slice a2 vs.length cap)
 a4:Apart (.slice b1 n1 e1) (.slice b3 n3 e3)
 m1:(Value.slice b1 n1 e1).ownBlock≠some Mb
 m3:(Value.slice b3 n3 e3).ownBlock≠some Mb
theorem LJ.keep{W}(h:LJ w W aD U Z af aa ab ah ins outs vs au base R J cap)(k:Kept 0 0 W H):LJ w H aD U Z af aa ab ah ins outs vs au base R J cap:=
 {h with g:=h.g.keep k,b:=h.b.keep k,m:=h.m.keep k yaa,i:=eN h.i k,o:=eN h.o k,k:=h.k.trans k}
theorem LJ.set{W}(h:LJ w W aD U Z af aa ab ah ins outs vs au base R J cap)(j r):LJ w (W.setCell ⟨aD,j,none⟩ (h1 r)) aD U Z af aa ab ah ins outs vs (au.set j r) base R J cap:=by
 have hP:aD≠w.heap.size:=i0 h.hb h.dM
 have C:aD≠w.heap.size+1:=i0 h.hb h.dM
 have c:∀I o,aD≠I->(W.setCell ⟨_,j,_⟩ (h1 r)).cell? _=W.cell? ⟨I,o,_⟩:=λI o a7=>eV _ _ _ _ _ _ (.inl a7);obtain⟨aN,bl,aS,a9,bF,bB,bG⟩:=h.b
 exact {
  g:=⟨by simpa using h.g.lt,λo=>by simp[h.g.free o],by rw[c _ _ hP];exact h.g.c0,by rw[c _ _ hP];exact h.g.c1,by rw[c _ _ hP];exact h.g.c2,eI h.g.own (i1 h.g.row h.rM),h.g.row,h.g.ne,by simpa using h.g.sz⟩
  b:=⟨by simpa using aN,by rw[c _ _ C];exact bl,by rw[c _ _ C];exact aS,by rw[c _ _ C];exact a9,by simp[bF],by simp[bB],by simp[bG]⟩
  m:=h.m.set j r
  i:=eI h.i h.m1
  o:=eI h.o h.m3
  k:=qD w W h.k _ j _ (i0 h.hb h.dM)
  hb:=h.hb,dM:=h.dM,rM:=h.rM,a1:=h.a1,a3:=h.a3,a4:=h.a4,m1:=h.m1,m3:=h.m3}
theorem aK.qbe(h:Zp:=by
 exact {
  g:=ay
  b:=h.b.stq aB xaa d
  m:=h.m.stq aB (i0 h.hb h.dM) h.rM
  i:=tu h.i aB cc cq
  o:=tu h.o aB b9 ch
  k:=Chg.kept h.k aB.chg (by
   rintro i (c|c)
   ·omega
   ·have:=(eG h.g.own (h.g.row.trans c)).1;have:=h.hb;omega)
  hb:=h.hb
  dM:=h.dM
  rM:=a _ h.m.lt h.rM
  a1:=ds
  a3:=bf
  a4:=h.a4
  m1:=h.m1
  m3:=h.m3}):Zp:=h
open aK in
theorem LJ.step{W}(h:LJ w W aD U Z af aa ab ah ins outs vs au base R J cap)(k:Kept 0 0 W aH)
  (own:am.ownsRow base 86 6 (.slice a2' vs2.length cap') vs2.length (fN vs2)) (bM:(Value.slice a2' vs2.length cap').ownBlock=R') (s:StQ (λ_=>False) R aH R' am) (av:Kept l h' am aU) (ai:W.heap.size<=l) (K:∀g,R'=some g->g<l\/h'<=g):
  LJ w (fg aU w.heap.size (.slice U Z af) (.slice a2' vs2.length cap') (.slice aa ab ah)) aD U Z af aa ab ah ins outs vs2 au base R' a2' cap':=by
 obtain⟨ay,aB⟩:=h.g.put2 k own bM s av ai K;have a5:=k.size;exact qbd
end
section
attribute[local go_sem] eE eD eC
variable{w H:World}{xs act:List Bool}{aD P a0 af n A ah ab base cap c1 c2 c3 I:Nat}{U aa J:Option Addr}{ins outs au:List Int}{vs:List Vl}{R:Option Nat}
theorem LJ.read{W Z}(h:LJ w W aD U Z af aa ab ah ins outs vs au base R J cap)(ag:0<vs.length):
  ∃g,J=some ⟨g,0,none⟩/\R=some g/\g<W.heap.size/\∀j,j<vs.length->At W g (j*6) (vs.getD j h9):=by
 exact xgq
theorem bZ.qcl(h:Zp:=by
 have hP:∀o,_:=λo=>X.cell (p:=⟨w.heap.size,o,none⟩) b2 xaa
 have a:RB H (w.heap.size+1) (.slice none 0 0) (.slice none 0 0) (.slice none 0 0):=by
  obtain⟨aN,bl,aS,a9,bF,bB,bG⟩:=K.keep k;refine RB.keep ?_ X;exact xdm
 have aR:=k.size;have bd:=aX.size;subst ag
 exact {
  g:=⟨yak b2 X.size,λo=>by
    rw[X.frozen b2 xaa]
    unfold fg
    simp[k.frozen (p:=⟨w.heap.size,o,none⟩) br.sz xaa,ba o],i1 hP bh,i1 hP aJ,i1 hP y2,p2,rfl,λc=>by grind,by
    have:=X.size
    grind[fg]⟩
  b:=a
  m:=aL
  i:=bk
  o:=a6
  k:=(Kept.new (cy.trans k) aX yad).trans X
  hb:=xaa
  dM:=by
   grind[fg]
  rM:=λc=>by
   grind[fg]
  a1:=λI F h2=>ay I h2 F
  a3:=λI F h2=>aB I h2 F
  a4:=bz
  m1:=λc=>by
   grind[fg]
  m3:=λc=>by
   grind[fg]}):Zp:=h
theorem bZ.qes(h:Zp:=by
 have Y:∀{e size n:Nat}{v:Value}{xs:List _},aH.ownsRow ((w.alloc g).alloc fH).heap.size e size v n _->H.ownsRow _ e _ v n xs/\(∀I,v.ownBlock=some I->w.heap.size+1+1<=I/\I<aH.heap.size):=λh=>
  ⟨eN (fD h aX (λb hb=>ix ((eG h hb).1))) X,λI a7=>ix (eG h a7)⟩
 exact qck):Zp:=h
open bZ in
theorem LJ.start{aH Z ae aM bi aI g u0 u1 u2}(ag:vs.length=ae)
  (br:G0 ((w.alloc g).alloc fH) w.heap.size u0 u1 u2) (ba:∀o,((w.alloc g).alloc fH).frozen? ⟨w.heap.size,o,none⟩=false) (K:RB ((w.alloc g).alloc fH) (w.heap.size+1) (.slice none 0 0) (.slice none 0 0) (.slice none 0 0)) (k:Kept 0 0 ((w.alloc g).alloc fH) aH)
  (ch:aH.ownsRow ((w.alloc g).alloc fH).heap.size 3 1 (.slice U Z aM) Z (ins.map (Value.int .i64))) (b9:aH.ownsRow ((w.alloc g).alloc fH).heap.size 86 6 (.slice J ae bi) ae (fN vs)) (bf:aH.ownsRow ((w.alloc g).alloc fH).heap.size 3 1 (.slice aa ab aI) ab (outs.map (Value.int .i64)))
  (ay:Apart (.slice J ae bi) (.slice U Z aM)) (aB:Apart (.slice J ae bi) (.slice aa ab aI)) (bz:Apart (.slice U Z aM) (.slice aa ab aI)):
  ∀H,IR H (fg aH w.heap.size (.slice U Z aM) (.slice J ae bi) (.slice aa ab aI)).heap.size (List.replicate ae 0)->Kept 0 0 (fg aH w.heap.size (.slice U Z aM) (.slice J ae bi) (.slice aa ab aI)) H->
   LJ w H (fg aH w.heap.size (.slice U Z aM) (.slice J ae bi) (.slice aa ab aI)).heap.size U Z aM aa ab aI ins outs vs (List.replicate ae 0) ((w.alloc g).alloc fH).heap.size (Value.slice J ae bi).ownBlock J bi:=by
 intro H aL X;have a5:((w.alloc g).alloc fH).heap.size=w.heap.size+1+1:=by simp
 exact qer
structure Oth(w:World)(Mb:Nat)(b1:Option Addr)(n1 e1:Nat)(b3:Option Addr)(n3 e3:Nat)(R:Option Nat)(B:Nat):Prop where
 p:w.heap.size+1+1<=B
 m:Mb≠B
 r:R≠some B
 i:(Value.slice b1 n1 e1).ownBlock≠some B
 o:(Value.slice b3 n3 e3).ownBlock≠some B
theorem LJ.oth{W Z}(h:LJ w W aD U Z af aa ab ah ins outs vs au base R J cap)(a7:W.heap.size<=I):Oth w aD U Z af aa ab ah R I where
 p:=ix h.b.sz
 m:=ix h.m.lt
 r:=λc=>by have:=(eG h.g.own (h.g.row.trans c)).2;omega
 i:=λc=>ix ((eG h.i c).2)
 o:=λc=>ix ((eG h.o c).2)
theorem cV.qde(h:Zp:=by
 exact {
  g:=⟨by simpa using h.g.lt,λo=>by simp[h.g.free o],by rw[c _ _ xaa];exact h.g.c0,by rw[c _ _ xaa];exact h.g.c1,by rw[c _ _ xaa];exact h.g.c2,eI h.g.own (i1 h.g.row t.r),h.g.row,h.g.ne,by simpa using h.g.sz⟩
  b:=⟨by simpa using aN,by rw[c _ _ xaa];exact bl,by rw[c _ _ xaa];exact aS,by rw[c _ _ xaa];exact a9,by simp[bF],by simp[bB],by simp[bG]⟩
  m:=by
   unfold IR
   rw[Below.heap_setCell W _ u _ t.m]
   exact h.m
  i:=eI h.i t.i
  o:=eI h.o t.o
  k:=qD w W h.k I j _ xaa
  hb:=h.hb,dM:=h.dM,rM:=h.rM,a1:=h.a1,a3:=h.a3,a4:=h.a4,m1:=h.m1,m3:=h.m3}):Zp:=h
open cV in
theorem LJ.other{W Z}(h:LJ w W aD U Z af aa ab ah ins outs vs au base R J cap)(t:Oth w aD U Z af aa ab ah R I)(j u):LJ w (W.setCell ⟨I,j,none⟩ u) aD U Z af aa ab ah ins outs vs au base R J cap:=by
 exact qdd
theorem ir3(w:World)(a b c):IR (w.alloc (.cells #[h1 a,h1 b,h1 c] 3)) w.heap.size [a,b,c]:=by
 unfold IR;rw[heap_alloc_new];rfl
theorem GM(v au q)(aA:q<3):([ovs v au q 0,ovs v au q 1,ovs v au q 2]:List Int).set q (au.getD (fld v q).toNat 0)=[ovs v au (q+1) 0,ovs v au (q+1) 1,ovs v au (q+1) 2]:=by
 grind[ovs]
theorem GN(vs x t s)(h:s≠x)(aw:s<vs.length):(jst vs x t 0).2.getD s 0=-1:=by
 unfold jst;grind
theorem LJ.fin{W Z}(h:LJ w W aD U Z af aa ab ah ins outs vs au base R J cap)(k:Kept 0 0 W H):
  ((fg H (w.heap.size+1) (.slice U Z af) (.slice J vs.length cap) (.slice aa ab ah)).ownsRow w.heap.size 3 1 (.slice U Z af) Z (ins.map (Value.int .i64))/\(fg H (w.heap.size+1) (.slice U Z af) (.slice J vs.length cap) (.slice aa ab ah)).ownsRow w.heap.size 86 6 (.slice J vs.length cap) vs.length (fN vs)/\(fg H (w.heap.size+1) (.slice U Z af) (.slice J vs.length cap) (.slice aa ab ah)).ownsRow w.heap.size 3 1 (.slice aa ab ah) ab (outs.map (Value.int .i64)))/\Kept 0 0 w (fg H (w.heap.size+1) (.slice U Z af) (.slice J vs.length cap) (.slice aa ab ah)):=by
 exact xcu
theorem aO.qbi(h:Zp:=by
 have Y:=h.step (vs2:=vs++[u]) (a2':=some ⟨aC,0,none⟩) (cap':=cap') (l:=W.heap.size) (h':=W.heap.size) k (by rw[ai];exact own) (R':=some aC) rfl s ((Kept.refl 0 0 am).mono λ_ _ c=>by omega) yad (λg _=>by omega);exact xfw):Zp:=h
open aO in
theorem LJ.call{W ax Z}(h:LJ w W aD U Z af aa ab ah ins outs vs au base R J cap)(k:Kept 0 0 W ax)(u)(ag:vs.length<=1000000):
  Calls prog 78 #[eX U Z af J vs.length cap aa ab ah,u.agg] ax λe am=>∃aC cap',e=.returned (eX U Z af (some ⟨aC,0,none⟩) (vs.length+1) cap' aa ab ah)/\
   (∃u,am.cell? ⟨w.heap.size,0,none⟩=some u)/\(∃u,am.cell? ⟨w.heap.size,1,none⟩=some u)/\(∃u,am.cell? ⟨w.heap.size,2,none⟩=some u)/\(∀o,am.frozen? ⟨w.heap.size,o,none⟩=false)/\
   V (LJ w (fg am w.heap.size (.slice U Z af) (h0 aC (vs.length+1) cap') (.slice aa ab ah)) aD U Z af aa ab ah ins outs (vs++[u]) au base (some aC) (some ⟨aC,0,none⟩) cap'):=by
 exact qbh
theorem BD(w a1 J a3 Z c1 ae c2 ab c3 ins vs outs)(f:GS w a1 Z J ae a3 ab ins vs outs)(ai:∀k,k<ae->1<=(vs.getD k h9).len/\(vs.getD k h9).len<=1000):
  Calls prog 130 #[eX a1 Z c1 J ae c2 a3 ab c3] w λe B=>e=.returned (.bool (!kz vs))/\Kept 0 0 w B:=by
 have ag:=f.v.len;have bj:=eA 0 0 w (fx a1 Z c1 J ae c2 a3 ab c3);by_cases h2:ae<=2000
 ·have HX:V _:=Cw _ _ _ _ _ c1 _ c2 _ c3 _ _ _ (f.keep bj) h2 ai;have HK:V _:=bj;have aS:((ae:Int)<=2000):=xaa;by_cases al:eZ vs<=50000
  ·have e:kz vs=false:=by grind[kz]
   rw[e];have a9:=decide_eq_true al;exact xea
  have e:kz vs=true:=by grind[kz]
  rw[e];have a9:=yay al;exact xea
 have e:kz vs=true:=by grind[kz]
 rw[e];have aS:¬((ae:Int)<=2000):=xaa;clear f ai ag e;go_enter func130,ntmps130;go_wp2;go_ret;exact⟨rfl,bj⟩
def uw(act:List Bool)(v:Vl)(k:Nat):Bool:=(List.range k).any λq=>act.getD (fld v q).toNat false
theorem D0(act v k):uw act v (k+1)=(uw act v k||act.getD (fld v k).toNat false):=by
 simp_all[uw,List.range_succ]
theorem tv{i j b}(h:j≠i):(xs.set i b).getD j false=xs.getD j false:=by
 grind
theorem zS(vs0 x):∀m i,x+m<i->(jo vs0 x m).getD i false=false
 |0,i,h=>by
  rw[jo,tv xaa,yai,List.getElem?_replicate]
  split<;>rfl
 |m+1,i,h=>by rw[jo,tv xaa,zS vs0 x m i xaa]
theorem D4{i}(h:xs.getD i false=false):xs.set i false=xs:=by
 by_cases hi:i<xs.length
 ·exact xhp
 exact List.set_eq_of_length_le xaa
structure AcS(w W:World)(P g2 n A:Nat)(b1 b3:Option Addr)(n1 c1 c2 n3 c3:Nat)(vs:List Vl)(act:List Bool):Prop where
 g:G0 W P (.slice b1 n1 c1) (.slice (some ⟨g2,0,none⟩) n c2) (.slice b3 n3 c3)
 v:VA W g2 n vs
 a:BR W A act
 k:Kept 0 0 w W
 n1:P≠A
 n2:g2≠A
 l:w.heap.size<=A
theorem AcS.keep{W Z}(h:AcS w W P a0 n A U aa Z c1 c2 ab c3 vs act)(k:Kept 0 0 W H):AcS w H P a0 n A U aa Z c1 c2 ab c3 vs act:=
 ⟨h.g.keep k,VA.keep h.v k yaa,BR.keep h.a k yaa,h.k.trans k,h.n1,h.n2,h.l⟩
theorem AcS.set{W Z}(h:AcS w W P a0 n A U aa Z c1 c2 ab c3 vs act)(i b):AcS w (W.setCell ⟨A,i,none⟩ (.bool b)) P a0 n A U aa Z c1 c2 ab c3 vs (act.set i b):=
 have k:=fJ (S:=λq=>q=A) W A i (.bool b) rfl
 ⟨h.g.keepC k h.n1,h.v.keepC k h.n2,BR.set h.a i b,h.k.new (eU (lo:=A) (hi:=A+1) W ⟨A,i,none⟩ (.bool b) yac) h.l,h.n1,h.n2,h.l⟩
theorem zT(w U aa a0 Z c1 n c2 ab c3 s x vs)(az:VA w a0 n vs)(ai:n<=2000)(aw:s<n)(ap:x<n)(b4:∀j,j<n->0<=(vs.getD j h9).op/\(vs.getD j h9).op<=13)(hops:∀j,j<n->∀k,k<cnt (vs.getD j h9).op->0<=fld (vs.getD j h9) k/\fld (vs.getD j h9) k<j):
  Calls prog 137 #[eX U Z c1 (some ⟨a0,0,none⟩) n c2 aa ab c3,h1 s,h1 x] w λe B=>∃A,e=.returned (h0 A n n)/\BR B A (jo vs x (s-x))/\w.heap.size<=A/\Kept 0 0 w B:=by
 have hlt:=az.lt;have N:V _:=az.len;have ao:=NA n (w.alloc (fx U Z c1 (some ⟨a0,0,none⟩) n c2 aa ab c3)) xaa;have an:=eA 0 0 w (fx U Z c1 (some ⟨a0,0,none⟩) n c2 aa ab c3);have av:=eA 0 0 (w.alloc (fx U Z c1 (some ⟨a0,0,none⟩) n c2 aa ab c3)) (.cells (madeCells #[.bool false] n) 4);have be:=BR.made (w.alloc (fx U Z c1 (some ⟨a0,0,none⟩) n c2 aa ab c3)) n;rw[show(w.alloc _).heap.size=w.heap.size+1 by simp]at be ao
 have Y:V (AcS w _ _ _ n _ _ _ _ _ _ _ _ _ _):=
  ⟨(hH w _ _ _).keep av,VA.keep az (an.trans av) yaa,be,an.trans av,by omega,by omega,by omega⟩
 have aZ:V (AcS w (((w.alloc (fx U Z c1 (some ⟨a0,0,none⟩) n c2 aa ab c3)).alloc (.cells (madeCells #[.bool false] n) 4)).setCell ⟨w.heap.size+1,x,none⟩ (.bool true)) w.heap.size a0 n (w.heap.size+1) U aa Z c1 c2 ab c3 vs (jo vs x 0)):=by
  have:=Y.o.set x true;unfold jo;rw[N.o];exact this
 have aJ:=Y.o.g.q1;have b:=BR.cell Y.o.a x (by grind);have g:=BR.free Y.o.a x;generalize (List.replicate n _).getD x _=K at b;have cw:(0:Int)<=x:=xaa;have cj:(x:Int)<n:=xaa;have T:IntKind.i64.wrap (x+1)=x+1:=by rw[IntKind.wrap_i64];omega
 have ca:V _:=b4;have ej:V _:=hops;clear az an av be Y b4 hops;generalize (w.alloc _).alloc _=am at ao aZ aJ b g;go_enter func137,ntmps137;go_wp2_with fail;clear ao aJ b g;generalize am.setCell _ _=bD at aZ⊢;generalize y:w.heap.size+1=A at aZ⊢;clear y;go_loopw [8] (λv W=>∃(i m:Nat),v=h1 i/\i=x+1+m/\m<=s-x/\V (AcS w W w.heap.size a0 n A U aa Z c1 c2 ab c3 vs (jo vs x m))) (λv _=>s+1-(intOf v).toNat)
 case atStart=>grind
 case round=>
  obtain⟨i,m,rfl,f,r,bI⟩:=hrel;clear aZ;by_cases gd:i<=s
  ·have Q:(0:Int)<=i:=xaa;have bE:(i:Int)<n:=xaa;have C:(i:Int)<=s:=xaa;have bg:i<n:=xaa;obtain⟨v,aN⟩:∃v,v=vs.getD i h9:=⟨_,rfl⟩
   have bX:V _:=aN;have aQ:V _:=zD v.op (by rw[aN];exact(ca.o i bg).1) (by rw[aN];exact(ca.o i bg).2);have dg:=ej.o i bg;rw[<-aN]at dg;have eL:V _:=dg
   have aK:V (AcS w wr w.heap.size a0 n A U aa Z c1 c2 ab c3 vs ((jo vs x m).set i (uw (jo vs x m) v 0))):=by
    have e:(jo _ x m).set i (uw (jo vs x m) v 0)=jo _ x m:=D4 (zS vs x m i xaa);show AcS _ _ _ _ _ _ _ _ _ _ _ _ _ _ _;rw[e];exact bI.o
   have h:V (i=x+1+m/\m<=s-x):=⟨f,r⟩
   have t:V ((jo vs x m).length=n):=by show _=_;rw[oK,N.o]
   have cT:V (jo vs x (m+1)=(jo vs x m).set i (uw (jo vs x m) v (cnt v.op))):=by
    show _=_;rw[jo,<-f,<-aN];rfl
   generalize jo _ x m=act at aK t cT;have he:IntKind.i64.wrap (i+1)=i+1:=by rw[IntKind.wrap_i64];omega
   clear bI f r aN dg;go_wp2_with fail;go_loopw [9] (λu W=>∃k:Nat,k<=cnt v.op/\u=h1 k/\V (AcS w W w.heap.size a0 n A U aa Z c1 c2 ab c3 vs (act.set i (uw act v k)))) (λu _=>cnt v.op-(intOf u).toNat)
   case atStart=>exact⟨0,yae,rfl,aK⟩
   case round=>
    obtain⟨k,O,rfl,a2⟩:=hrel;clear aK;have aJ:=a2.o.g.q1;have bw:=a2.o.v.at_ i bg;rw[<-bX.o]at bw;obtain⟨bP,aR,bd,bu,bC,ct⟩:=bw;by_cases hlt:k<cnt v.op
    ·obtain⟨o,ho,gf⟩:∃o:Nat,fld v k=o/\o<i:=by
      have:=eL.o k hlt;exact⟨(fld v k).toNat,by omega,by omega⟩
     have cA:=gK v.op;have cP:V (∀W,Calls _ _ _ W λe B=>e=.returned (.int _ o)/\Kept 0 0 W _):=λW=>by rw[<-ho];exact nz W v k xaa
     have b:=BR.cell a2.o.a o (by rw[List.length_set,t.o];omega);rw[tv xaa]at b
     have z:V (uw act v (k+1)=(uw act v k||act.getD o false)):=by
      show _=_;rw[D0,ho];rfl
     have S:V _:=cT.o;have bM:k<(cnt v.op:Int):=xaa;have ch:(0:Int)<=o:=xaa;have b9:(o:Int)<n:=xaa;have e3:IntKind.i64.wrap (k+1)=k+1:=by rw[IntKind.wrap_i64];omega
     have l:V (∀W,Kept 0 0 _ W->W.cell? _=some _):=λW X=>by
      rw[X.cell (p:=⟨A,o,none⟩) a2.o.a.lt xaa];exact b
     clear ho b;go_wp2_with (first|(go_at_call 19;refine yaj (aQ.o _) ?_;rintro e cn ⟨rfl,rfl⟩)|fail);refine yaj (cP.o _) ?_;rintro e cd ⟨rfl,a5⟩;have b:=l.o _ a5;have a:V _:=a2.o.keep a5;have G:=BR.cell a.o.a i (by rw[List.length_set,t.o];omega);have g:=BR.free a.o.a i;generalize (act.set i _).getD i _=K at G;clear aJ bP aR bd bu bC ct a5 l cP a2;cases hb:act.getD o false
     ·rw[hb]at b
      have HR:V (AcS w cd w.heap.size a0 n A U aa Z c1 c2 ab c3 vs (act.set i (uw act v (k+1)))):=by
       show AcS _ _ _ _ _ _ _ _ _ _ _ _ _ _ _;rw[z.o,hb,Bool.or_false];exact a.o
      exact xhb
     rw[hb]at b
     have HR:V (AcS w (cd.setCell ⟨A,i,none⟩ (.bool true)) w.heap.size a0 n A U aa Z c1 c2 ab c3 vs (act.set i (uw act v (k+1)))):=by
      have:=a.o.set i true;rw[List.set_set]at this;show AcS _ _ _ _ _ _ _ _ _ _ _ _ _ _ _;rw[z.o,hb,Bool.or_true];exact this
     exact xhb
    have bM:¬(k<(cnt v.op:Int)):=xaa;have d3:k=cnt v.op:=xaa
    have HR:V (AcS w wr w.heap.size a0 n A U aa Z c1 c2 ab c3 vs (jo vs x (m+1))):=by
     show AcS _ _ _ _ _ _ _ _ _ _ _ _ _ _ _;rw[cT.o,<-d3];exact a2.o
    clear a2 d3;go_wp2_with (first|(go_at_call 19;refine yaj (aQ.o _) ?_;rintro e cn ⟨rfl,rfl⟩)|fail);clear aJ bP aR bd bu bC ct;go_roundw;exact⟨i+1,m+1,by go_num,ix h.o,ix h.o,HR⟩;simp[intOf];omega
  have F:m=s-x:=xaa;have C:¬((i:Int)<=s):=xaa;have d:V _:=bI.o;clear bI f;go_wp2_with fail;go_ret;rw[<-F];exact⟨A,rfl,d.o.a,d.o.l,d.o.k⟩
end
section
variable{w aH H:World}{f ins outs au:List Int}{n aD Z A af ab ah base cap cap' I:Nat}{st:List Vl×List Int}{act:List Bool}{U aa J a2':Option Addr}{vs vs2:List Vl}{R R':Option Nat}
structure LK(w W:World)(b1:Option Addr)(n1 e1:Nat)(b3:Option Addr)(n3 e3:Nat)(ins outs:List Int)(vs:List Vl)(base:Nat)(R:Option Nat)(a2:Option Addr)(cap:Nat):Prop where
 g:SG W w.heap.size b1 n1 e1 b3 n3 e3 vs base R a2 cap
 b:RB W (w.heap.size+1) (.slice none 0 0) (.slice none 0 0) (.slice none 0 0)
 i:W.ownsRow base 3 1 (.slice b1 n1 e1) n1 (ins.map (Value.int .i64))
 o:W.ownsRow base 3 1 (.slice b3 n3 e3) n3 (outs.map (Value.int .i64))
 k:Kept 0 0 w W
 hb:w.heap.size+1+1<=base
 a1:Apart (.slice b1 n1 e1) (.slice a2 vs.length cap)
 a3:Apart (.slice b3 n3 e3) (.slice a2 vs.length cap)
 a4:Apart (.slice b1 n1 e1) (.slice b3 n3 e3)
theorem LK.keep{W}(h:LK w W U Z af aa ab ah ins outs vs base R J cap)(k:Kept 0 0 W H):LK w H U Z af aa ab ah ins outs vs base R J cap:=
 {h with g:=h.g.keep k,b:=h.b.keep k,i:=eN h.i k,o:=eN h.o k,k:=h.k.trans k}
structure Farb(w:World)(b1:Option Addr)(n1 e1:Nat)(b3:Option Addr)(n3 e3:Nat)(R:Option Nat)(B:Nat):Prop where
 p:w.heap.size+1+1<=B
 r:R≠some B
 i:(Value.slice b1 n1 e1).ownBlock≠some B
 o:(Value.slice b3 n3 e3).ownBlock≠some B
theorem LK.far{W}(h:LK w W U Z af aa ab ah ins outs vs base R J cap)(a7:W.heap.size<=I):Farb w U Z af aa ab ah R I where
 p:=ix h.b.sz
 r:=λc=>by have:=(eG h.g.own (h.g.row.trans c)).2;omega
 i:=λc=>ix ((eG h.i c).2)
 o:=λc=>ix ((eG h.o c).2)
theorem cW.qde(h:Zp:=by
 exact {
  g:=⟨by simpa using h.g.lt,λo=>by simp[h.g.free o],by rw[c _ _ xaa];exact h.g.c0,by rw[c _ _ xaa];exact h.g.c1,by rw[c _ _ xaa];exact h.g.c2,eI h.g.own (i1 h.g.row t.r),h.g.row,h.g.ne,by simpa using h.g.sz⟩
  b:=⟨by simpa using aN,by rw[c _ _ xaa];exact bl,by rw[c _ _ xaa];exact aS,by rw[c _ _ xaa];exact a9,by simp[bF],by simp[bB],by simp[bG]⟩
  i:=eI h.i t.i
  o:=eI h.o t.o
  k:=qD w W h.k I j _ xaa
  hb:=h.hb,a1:=h.a1,a3:=h.a3,a4:=h.a4}):Zp:=h
open cW in
theorem LK.other{W}(h:LK w W U Z af aa ab ah ins outs vs base R J cap)(t:Farb w U Z af aa ab ah R I)(j u):LK w (W.setCell ⟨I,j,none⟩ u) U Z af aa ab ah ins outs vs base R J cap:=by
 exact qdd
theorem aL.qbe(h:Zp:=by
 exact⟨{
  g:=ay
  b:=h.b.stq aB xaa d
  i:=tu h.i aB cc cq
  o:=tu h.o aB b9 ch
  k:=Chg.kept h.k aB.chg (by
   rintro i (c|c)
   ·omega
   ·have:=(eG h.g.own (h.g.row.trans c)).1;have:=h.hb;omega)
  hb:=h.hb
  a1:=ds
  a3:=bf
  a4:=h.a4},aB⟩):Zp:=h
open aL in
theorem LK.step{W am aU l h'}(h:LK w W U Z af aa ab ah ins outs vs base R J cap)(k:Kept 0 0 W aH)
  (own:am.ownsRow base 86 6 (.slice a2' vs2.length cap') vs2.length (fN vs2)) (bM:(Value.slice a2' vs2.length cap').ownBlock=R') (s:StQ (λ_=>False) R aH R' am) (av:Kept l h' am aU) (ai:W.heap.size<=l) (K:∀g,R'=some g->g<l\/h'<=g):
  LK w (fg aU w.heap.size (.slice U Z af) (.slice a2' vs2.length cap') (.slice aa ab ah)) U Z af aa ab ah ins outs vs2 base R' a2' cap'/\StQ (λi=>i=w.heap.size) R W R' (fg aU w.heap.size (.slice U Z af) (.slice a2' vs2.length cap') (.slice aa ab ah)):=by
 obtain⟨ay,aB⟩:=h.g.put2 k own bM s av ai K;exact qbd
theorem LK.read{W}(h:LK w W U Z af aa ab ah ins outs vs base R J cap)(ag:0<vs.length):
  ∃g,J=some ⟨g,0,none⟩/\R=some g/\g<W.heap.size/\∀j,j<vs.length->At W g (j*6) (vs.getD j h9):=by
 exact xgq
theorem LK.fin{W}(h:LK w W U Z af aa ab ah ins outs vs base R J cap)(k:Kept 0 0 W H):
  ((fg H (w.heap.size+1) (.slice U Z af) (.slice J vs.length cap) (.slice aa ab ah)).ownsRow w.heap.size 3 1 (.slice U Z af) Z (ins.map (Value.int .i64))/\(fg H (w.heap.size+1) (.slice U Z af) (.slice J vs.length cap) (.slice aa ab ah)).ownsRow w.heap.size 86 6 (.slice J vs.length cap) vs.length (fN vs)/\(fg H (w.heap.size+1) (.slice U Z af) (.slice J vs.length cap) (.slice aa ab ah)).ownsRow w.heap.size 3 1 (.slice aa ab ah) ab (outs.map (Value.int .i64)))/\Kept 0 0 w (fg H (w.heap.size+1) (.slice U Z af) (.slice J vs.length cap) (.slice aa ab ah)):=by
 exact xcu
theorem aP.qbi(h:Zp:=by
 have Y:=h.step (vs2:=vs++[u]) (a2':=some ⟨aC,0,none⟩) (cap':=cap') (l:=W.heap.size) (h':=W.heap.size) k (by grind) (R':=some aC) rfl s ((Kept.refl 0 0 am).mono λ_ _ c=>by omega) yad (λg _=>by omega);exact xfw):Zp:=h
open aP in
theorem LK.call{W ax}(h:LK w W U Z af aa ab ah ins outs vs base R J cap)(k:Kept 0 0 W ax)(u)(ag:vs.length<=1000000):
  Calls prog 78 #[eX U Z af J vs.length cap aa ab ah,u.agg] ax λe am=>∃aC cap',e=.returned (eX U Z af (some ⟨aC,0,none⟩) (vs.length+1) cap' aa ab ah)/\
   (∃u,am.cell? ⟨w.heap.size,0,none⟩=some u)/\(∃u,am.cell? ⟨w.heap.size,1,none⟩=some u)/\(∃u,am.cell? ⟨w.heap.size,2,none⟩=some u)/\(∀o,am.frozen? ⟨w.heap.size,o,none⟩=false)/\
   V (LK w (fg am w.heap.size (.slice U Z af) (h0 aC (vs.length+1) cap') (.slice aa ab ah)) U Z af aa ab ah ins outs (vs++[u]) base (some aC) (some ⟨aC,0,none⟩) cap'/\StQ (λi=>i=w.heap.size) R W (some aC) (fg am w.heap.size (.slice U Z af) (h0 aC (vs.length+1) cap') (.slice aa ab ah))):=by
 exact qbh
structure LG(w W:World)(Mb A:Nat)(b1:Option Addr)(n1 e1:Nat)(b3:Option Addr)(n3 e3:Nat)(ins outs:List Int)(vs:List Vl)(mv:List Int)(act:List Bool)(base:Nat)(R:Option Nat)(a2:Option Addr)(cap:Nat):Prop where
 l:LK w W b1 n1 e1 b3 n3 e3 ins outs vs base R a2 cap
 m:IR W Mb mv
 a:BR W A act
 fm:Farb w b1 n1 e1 b3 n3 e3 R Mb
 fa:Farb w b1 n1 e1 b3 n3 e3 R A
 ne:Mb≠A
theorem LG.keep{W}(h:LG w W aD A U Z af aa ab ah ins outs vs au act base R J cap)(k:Kept 0 0 W H):LG w H aD A U Z af aa ab ah ins outs vs au act base R J cap:=
 ⟨h.l.keep k,h.m.keep k yaa,h.a.keep k yaa,h.fm,h.fa,h.ne⟩
theorem LG.set{W}(h:LG w W aD A U Z af aa ab ah ins outs vs au act base R J cap)(j r):LG w (W.setCell ⟨aD,j,none⟩ (h1 r)) aD A U Z af aa ab ah ins outs vs (au.set j r) act base R J cap:=
 ⟨h.l.other h.fm j _,h.m.set j r,h.a.keepC (fJ (S:=λq=>q=aD) W aD j (h1 r) rfl) (λe=>h.ne e.symm),h.fm,h.fa,h.ne⟩
theorem LG.stq{W}(h:LG w W aD A U Z af aa ab ah ins outs vs au act base R J cap)(l:LK w H U Z af aa ab ah ins outs vs2 base R' a2' cap')(q:StQ (λi=>i=w.heap.size) R W R' H):LG w H aD A U Z af aa ab ah ins outs vs2 au act base R' a2' cap':=by
 have a:∀{I},I<W.heap.size->Farb w U Z af _ _ _ R I->Farb w _ _ _ aa ab ah R' I:=λa7 t=>⟨t.p,by
  rcases q.row with e|⟨r,e,aF⟩
  ·rw[e];exact t.r
  grind,t.i,t.o⟩
 refine⟨l,h.m.stq q (ix h.fm.p) h.fm.r,h.a.keepC q.chg ?_,a h.m.lt h.fm,a h.a.lt h.fa,h.ne⟩;rintro (c|c)
 ·have:=h.fa.p;omega
 exact h.fa.r c
def gdn(vs:List Vl)(act:List Bool)(s:Nat):Nat->List Vl×List Int
 |0=>xS vs s
 |j+1=>giM vs act (s-j) (gdn vs act s j)
theorem ux(vs act s x):∀k,k<=s-x->zN vs act x (xS vs s) ((List.range k).map (λi=>(s-x)-1-i))=gdn vs act s k
 |0,_=>rfl
 |k+1,h=>by
  rw[List.range_succ,List.map_append,List.map_cons,List.map_nil,Bz,ux _ _ s x k xaa,gdn]
  grind
def xY(n:Nat)(act:List Bool)(sl:List Int):Prop:=∀q,q<n->sl.getD q 0=-1\/(0<=sl.getD q 0/\act.getD q false=true)
theorem Og{p}[Decidable p]{a b:List Vl×Int}(az:0<=a.2)(hb:0<=b.2):0<=(if p then a else b).2:=by grind
theorem Oh(i v S k d N)(aO:0<=d):0<=(nD i v S k d N).2:=by
 unfold nD;repeat' (apply Og)
 all_goals omega
theorem zU{o p}(h:xY n act f)(ai:f.length=n)(aQ:0<=p)(az:act.getD o false=true):xY n act (f.set o p):=λq aA=>by
 rw[yai,List.getElem?_set]
 by_cases e:o=q
 ·simp_all
 ·rw[h6 e,<-yai]
  exact h q aA
theorem Kq{i k}(h:xY n act st.2)(ai:st.2.length=n)(aO:0<=st.2.getD i 0):xY n act (gkM vs act i k st).2:=by
 grind[gkM,mF,zU,Oh]
theorem Ea{o i p}(h:o≠i):(mF vs o p st).2.getD i 0=st.2.getD i 0:=by
 unfold mF;grind
theorem Kr{i k}(h:(fld (vs.getD i h9) k).toNat≠i):(gkM vs act i k st).2.getD i 0=st.2.getD i 0:=by
 grind[gkM,Ea]
theorem uy{vs act i st}:∀k,(∀q,q<k->(fld (vs.getD i h9) q).toNat≠i)->(jS vs act i st k).2.getD i 0=st.2.getD i 0
 |0,_=>rfl
 |k+1,h=>by rw[jS,Kr (h k yaf),uy k (λq aA=>h q xaa)]
theorem uz{vs act n i st}(h:xY n act st.2)(ai:st.2.length=n)(aO:0<=st.2.getD i 0):∀k,(∀q,q<k->(fld (vs.getD i h9) q).toNat≠i)->xY n act (jS vs act i st k).2
 |0,_=>h
 |k+1,ba=>Kq (uz h ai aO k (λq aA=>ba q xaa)) (by rw[qK];exact ai) (by grind[uy])
theorem Ks{i}(h:xY n act st.2)(ai:st.2.length=n)(hi:i<n)(ba:∀q,q<cnt (vs.getD i h9).op->(fld (vs.getD i h9) q).toNat≠i):xY n act (giM vs act i st).2:=by
 unfold giM;split
 ·exact h
 rename_i al;exact uz h ai (by rcases h i hi with c|c<;>grind) _ ba
structure GdI(vs:List Vl)(act:List Bool)(n:Nat)(L:Nat)(C:Int)(st:List Vl×List Int):Prop where
 i:xY n act st.2
 l:st.2.length=n
 p:Pre vs st.1
 z:SzU L C st.1
theorem CE{vs act n s}(ag:vs.length=n)(aw:s<n)(a5:SzU 2000 50000 vs)(bV:LnB vs)(az:act.getD s false=true)(ba:∀i,i<n->∀q,q<cnt (vs.getD i h9).op->(fld (vs.getD i h9) q).toNat≠i):∀j,j<=s->GdI vs act n (2001+12*j) (51000+12000*(j:Int)) (gdn vs act s j)
 |0,_=>by
  refine⟨?_,by simp[gdn,xS,ag],⟨_,rfl⟩,?_⟩
  ·refine zU (λq aA=>.inl ?_) (by grind) xaa az
   simp_all
  ·exact(SzU.app (L':=1) (C':=1000) a5 ⟨by simp,by simp[eZ],by simp[eZ]⟩).mono xaa xaa
 |j+1,h=>by
  have G:=CE ag aw a5 bV az ba j xaa
  exact⟨Ks G.i G.l xaa (ba _ xaa),by rw[gdn,Kf];exact G.l,Ke G.p,(NQ bV G.z).mono xaa xaa⟩
theorem mR{s q}(h:q<=s):(f.take (s+1)).getD q 0=f.getD q 0:=by
 grind
theorem rH(f:List Int)(s o p):(f.take (s+1)).set o p=(f.set o p).take (s+1):=List.take_set.symm
theorem Eb(vs s)(aw:s<vs.length):(List.replicate (s+1) (-1:Int)).set s (vs.length:Nat)=(xS vs s).2.take (s+1):=by
 unfold xS;simp only;rw[<-rH,List.take_replicate,show min (s+1) vs.length=s+1 by omega]
theorem cA.qcl(h:Zp:=by
 have a:RB (fg aH w.heap.size (.slice U Z aM) (.slice J ae bi) (.slice aa ab aI)) (w.heap.size+1) (.slice none 0 0) (.slice none 0 0) (.slice none 0 0):=by
  obtain⟨aN,bl,aS,a9,bF,bB,bG⟩:=K.keep k;exact xdm
 have bd:=aX.size;subst ag
 exact {
  g:=⟨b2,λo=>by
    unfold fg
    simp[k.frozen (p:=⟨w.heap.size,o,none⟩) br.sz xaa,ba o],bh,aJ,y2,p2,rfl,λc=>by grind,yao bC bd⟩
  b:=a
  i:=bk
  o:=a6
  k:=Kept.new (cy.trans k) aX yad
  hb:=cO
  a1:=λI F h2=>ay I h2 F
  a3:=λI F h2=>aB I h2 F
  a4:=bz}):Zp:=h
theorem cA.qes(h:Zp:=by
 have Y:∀{e size n:Nat}{v:Value}{xs:List _},aH.ownsRow base e _ v n xs->(fg aH _ _ _ _).ownsRow _ e size v n _/\(∀I,v.ownBlock=some I->w.heap.size+1+1<=I/\I<aH.heap.size):=λh=>
  ⟨fD h aX (λb hb=>ix ((eG h hb).1)),λI a7=>ix (eG h a7)⟩
 exact qck):Zp:=h
open cA in
theorem LK.start{ae aM bi aI g u0 u1 u2}(ag:vs.length=ae)
  (br:G0 ((w.alloc g).alloc fH) w.heap.size u0 u1 u2) (ba:∀o,((w.alloc g).alloc fH).frozen? ⟨w.heap.size,o,none⟩=false) (K:RB ((w.alloc g).alloc fH) (w.heap.size+1) (.slice none 0 0) (.slice none 0 0) (.slice none 0 0)) (k:Kept 0 0 ((w.alloc g).alloc fH) aH) (cO:w.heap.size+1+1<=base) (bC:base<=aH.heap.size)
  (ch:aH.ownsRow base 3 1 (.slice U Z aM) Z (ins.map (Value.int .i64))) (b9:aH.ownsRow base 86 6 (.slice J ae bi) ae (fN vs)) (bf:aH.ownsRow base 3 1 (.slice aa ab aI) ab (outs.map (Value.int .i64)))
  (ay:Apart (.slice J ae bi) (.slice U Z aM)) (aB:Apart (.slice J ae bi) (.slice aa ab aI)) (bz:Apart (.slice U Z aM) (.slice aa ab aI)):
  LK w (fg aH w.heap.size (.slice U Z aM) (.slice J ae bi) (.slice aa ab aI)) U Z aM aa ab aI ins outs vs base (Value.slice J ae bi).ownBlock J bi:=by
 exact qer
def v7(w w':World)(n1 n3:Nat)(ins outs:List Int)(M:List Vl×Int)(e:Ending):Prop:=
 ∃b1 d1 b3 d3 a2 cap,e=.returned (.tuple #[eX b1 n1 d1 a2 M.1.length cap b3 n3 d3,.int .i64 M.2])/\w'.ownsRow w.heap.size 3 1 (.slice b1 n1 d1) n1 (ins.map (Value.int .i64))/\w'.ownsRow w.heap.size 86 6 (.slice a2 M.1.length cap) M.1.length (fN M.1)/\w'.ownsRow w.heap.size 3 1 (.slice b3 n3 d3) n3 (outs.map (Value.int .i64))/\Apart (.slice b1 n1 d1) (.slice b3 n3 d3)
end
section
attribute[local go_sem] eE eD eC
theorem xZ(w U aV aa Z c1 ae c2 ab c3 ins vs outs)(f:GS w U Z aV ae aa ab ins vs outs)(b6:Z<=1000000)(cf:ae<=1000000)(b7:ab<=1000000):
  Calls prog 138 #[eX U Z c1 aV ae c2 aa ab c3] w λe B=>∃a1 aM J bi a3 aI,e=.returned (eX a1 Z aM J ae bi a3 ab aI)/\B.ownsRow w.heap.size 3 1 (.slice a1 Z aM) Z (ins.map (Value.int .i64))/\B.ownsRow w.heap.size 86 6 (.slice J ae bi) ae (fN vs)/\B.ownsRow w.heap.size 3 1 (.slice a3 ab aI) ab (outs.map (Value.int .i64))/\
   (Apart (.slice J ae bi) (.slice a1 Z aM)/\Apart (.slice J ae bi) (.slice a3 ab aI)/\Apart (.slice a1 Z aM) (.slice a3 ab aI))/\Kept 0 0 w B:=by
 obtain⟨b1,hi,hz0,hz1,hz2⟩:=info_parts yW;have an:=eA 0 0 w (fx U Z c1 aV ae c2 aa ab c3);have av:=eA 0 0 (w.alloc (fx U Z c1 aV ae c2 aa ab c3)) fH;have T:V _:=(hH w _ _ _).keep av;have bI:=iW (w.alloc (fx U Z c1 aV ae c2 aa ab c3));rw[show(w.alloc _).heap.size=w.heap.size+1 by simp]at bI;have HR:V _:=bI;have HK:V _:=an.trans av;have bw:V _:=f.i.keep (an.trans av) yaa;have j:V _:=f.v.keep (an.trans av) yaa;have u:V _:=f.o.keep (an.trans av) yaa;clear f bI an av;obtain⟨_,aP,ay,aB⟩:=T.o;go_enter func138,ntmps138;go_upto_region 2 with fail;generalize (w.alloc _).alloc _=am at T HR HK bw j u aP ay aB⊢;have HN:V _:=Q3 j.o;go_wp2_with (first|(at_builtin;refine mD _ rfl _ _ _ rfl am.heap.size 86 _ _ 6 _ underlying106 hi hz0 hz1 hz2 rfl xab rfl _ _ _ _ rfl ?c0 HN.o ?c2 ?c3 ?c4 ?c5 ?_))
 case c0=>rw[zv,j.o.len]
 case c2=>exact PU _
 case c3=>unfold maxLen;omega
 case c4=>omega
 case c5=>exact yad
 intro v' aU cO l;obtain⟨J,bi,rfl⟩:=iL cO;have aZ:=iK l (λk O=>by cases O) iv yad;have af:V _:=cO;have aO:V _:=aZ;clear cO l HN aP ay aB aZ;obtain⟨_,aP,ay,aB⟩:=G0.keep T.o aO.o;have d:=IS.keep bw.o aO.o yaa;have ea:V _:=d;have m:V _:=IS.keep u.o aO.o yaa;have ca:V _:=G0.keep T.o aO.o;have aG:V _:=RB.keep HR.o aO.o;have HQ:V (w.heap.size+1<am.heap.size/\w.heap.size<=am.heap.size/\am.heap.size<=aU.heap.size):=⟨HR.o.sz,HK.o.size,aO.o.size⟩
 clear d T HR bw j u;go_wp2_with fail
 go_region_held3 (λB=>B.cell? ⟨w.heap.size,0,none⟩=some (.slice U Z c1)/\B.cell? ⟨w.heap.size,2,none⟩=some (.slice aa ab c3)) (first|go_keep|(simp only[jK _ _ _ _ _ _ _ bc];exact⟨bq,aT⟩))
  (first
   |(go_at_call 89;refine yaj (oG _ _ _ _ _ _ _ b7 (IS.keep m.o a yaa)) ?_;rintro e bD ⟨a3,aI,rfl,bf,a2⟩;have P:=Kept.trans a a2;obtain⟨_,bq,aq,aT⟩:=G0.keep ca.o P;obtain⟨_,bl,aS,a9,bF,bB,bG⟩:=RB.keep aG.o P;have bc:w.heap.size≠w.heap.size+1:=by omega)
   |(go_at_call 89;refine yaj (oG (aU.drewN 1) _ _ _ _ _ _ b6 (IS.keep ea.o (eH 0 0 _ 1) yaa)) ?_;rintro e bA ⟨a1,aM,rfl,ch,bW⟩;have a:=Kept.trans (eH 0 0 _ 1) bW;obtain⟨_,aY,ar,aW⟩:=G0.keep ca.o a))
 go_wp2_with fail;obtain⟨bh,aJ,y2⟩:=fd _ _ _ _ _ bl aS a9 (.slice a1 Z aM) (.slice J ae bi) (.slice a3 ab aI);have aX:=fk bD (w.heap.size+1) (.slice a1 Z aM) (.slice J ae bi) (.slice a3 ab aI);have bm:(aU.drewN 1).heap.size=aU.heap.size:=rfl;have di:=bW.size;have C:=HQ.o
 have Y:∀{b e size n:Nat}{v:Value}{xs:List _}{W:World},W.ownsRow b e _ v n _->am.heap.size<=b->Kept 0 0 W _->(((bD.setCell _ _).setCell _ _).setCell _ _).ownsRow w.heap.size e size v n xs:=λh hb k=>
  gy (fD (eN h k) aX (λg aK=>ix ((eG h aK).1))) xaa
 refine yaz (v:=eX a1 Z aM J ae bi a3 ab aI) (by simp[results,results138,go_sem,bh,aJ,y2]) rfl ⟨a1,aM,J,bi,a3,aI,rfl,Y ch xaa a2,Y af.o yad P,Y bf xaa iv,⟨ug af.o ch xaa,ug af.o bf xaa,ug ch bf yad⟩,Kept.new ((HK.o.trans aO.o).trans P) aX xaa⟩
theorem s.qaf(h:Zp:=by
 exact qec):Zp:=h
theorem s.qed(h:Zp:=by
 rw[f7.o]at bv;have C:vs.length<=1000000:=ix N.o
 by_cases gg:s<x
 all_goals
  (first|(have a8:(s:Int)<x:=by omega)|(have a8:¬((s:Int)<x):=by omega))
  go_upto_region 5 with fail
  clear bH bk p2 bN f1 f2 bc
  generalize ((am.setCell _ _).setCell _ _).setCell _ _=c6 at HL c7⊢
  rw[<-N.o]at HL⊢
  have aY:=HL.o.g.c0
  have ar:=HL.o.g.c1
  have aW:=HL.o.g.c2
  go_cut [] (λbb=>∃aC cap',V (LK w bb U Z aM aa ab aI ins outs (vs++[eJ 1 bE 0 0 0]) aH.heap.size (some aC) (some ⟨aC,0,none⟩) cap'))
  case first=>
   go_region_with (first
    |(go_at_call 78;refine yaj (LK.call HL.o ((eF _).trans an) _ C) ?_;rintro e am ⟨aC,cap',rfl,⟨_,bq⟩,⟨_,aq⟩,⟨_,aT⟩,ak,bU⟩;have bR:=ak 0;have bS:=ak 1;have bT:=ak 2;have co:V _:=bU.o.1;clear ak bU)
    |(go_at_call 94;refine yaj (pt _ _) ?_;rintro e aH ⟨rfl,an⟩;have bH:=(LK.keep HL.o ((eF _).trans an)).g.c0;have bk:=(LK.keep HL.o ((eF _).trans an)).g.c1;have p2:=(LK.keep HL.o ((eF _).trans an)).g.c2))
   all_goals (go_wp2_with fail;go_meet;exact⟨_,_,co⟩)
  case rest=>
   obtain⟨aC,cap',bU⟩:=hcut
   have ci:(vs++[eJ 1 bE 0 0 0]).length=vs.length+1:=by simp
   generalize a6:vs++[eJ 1 _ 0 0 0]=G at bU bv ci
   clear aY ar aW a6 HL
   have aY:=bU.o.g.c0
   have ar:=bU.o.g.c1
   have aW:=bU.o.g.c2
   obtain⟨_,bl,aS,a9,bF,bB,bG⟩:=bU.o.b
   have b:V _:=λW=>iY W U (some ⟨aC,0,none⟩) aa Z aM _ cap' ab aI (show G.length<=1000000 by have:=N.o;have:=ci;omega)
   rw[show(G.length:Int)-1=(vs.length:Nat) by omega]at b
   clear ci
   go_wp2_with fail
   go_region_with (first
    |(go_at_call 85;refine yaj (b.o _) ?_;rintro e aU ⟨rfl,aZ⟩;clear bl aS a9 bF bB bG;have aP:=(bU.o.keep ((eF _).trans aZ)).g.c0;have ay:=(bU.o.keep ((eF _).trans aZ)).g.c1;have aB:=(bU.o.keep ((eF _).trans aZ)).g.c2;obtain⟨_,bl,aS,a9,bF,bB,bG⟩:=(bU.o.keep ((eF _).trans aZ)).b))
   all_goals
    have d5:V _:=bU.o.a4
    have R1:V _:=bU.o.fin ((eF _).trans aZ)
    obtain⟨bh,aJ,y2⟩:=fd _ _ _ _ _ bl aS a9 (.slice U Z aM) (h0 aC G.length cap') (.slice aa ab aI)
    go_wp2_with fail
    refine yaz (v:=.tuple #[eX U Z aM (some ⟨aC,0,none⟩) G.length cap' aa ab aI,h1 vs.length]) (by simp[results,results134,go_sem,bh,aJ,y2]) rfl ⟨?_,R1.o.2⟩
    rw[bv.o]
    exact⟨_,_,_,_,_,_,rfl,R1.o.1.1,R1.o.1.2.1,R1.o.1.2.2,d5.o⟩):Zp:=h
open s in
theorem yd(w K P a0 Z c1 ae c2 ab c3 s x ins vs outs)(f:GS w K Z (some ⟨a0,0,none⟩) ae P ab ins vs outs)(cQ:VA w a0 ae vs)(b6:Z<=1000000)(cf:ae<=2000)(b7:ab<=1000000)(Q:(List.range ae).all (okV ins vs)=true)(cN:eZ vs<=50000)(aw:s<ae)(ap:x<ae)(az:(jo vs x (s-x)).getD s false=false):
  Calls prog 134 #[eX K Z c1 (some ⟨a0,0,none⟩) ae c2 P ab c3,h1 s,h1 x] w λe B=>v7 w B Z ab ins outs (grM vs s x) e/\Kept 0 0 w B:=by
 have bv:V (grM vs s x=(vs++[eJ 1 (vs.getD x h9).len 0 0 0],(vs.length:Int))):=by
  show _=_;unfold grM;rw[h6 (by rw[az];simp)]
 exact qdr
