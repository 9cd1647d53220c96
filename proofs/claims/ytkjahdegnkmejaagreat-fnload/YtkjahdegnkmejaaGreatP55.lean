import Derived.Test.YtkjahdegnkmejaaGreatP51
import Derived.Test.YtkjahdegnkmejaaGreatP37
import Derived.Test.YtkjahdegnkmejaaGreatP54
namespace Go.Proofs.Z
open YtkjahdegnkmejaaGreat
open Tryz
set_option maxRecDepth 1000000
set_option maxHeartbeats 0
section
open Go.RowKit Flt
attribute[local go_sem] eE eC eB
variable{w:World}{S:Nat->Prop}{af us:List Ste}{xs bs ins:List Int}{i P n I cap Y ae aa c1 c2 c3:Nat}{ba:List Spn}{a a1 K a3:Option Addr}{ay:Int}
variable{bs:List Int}
theorem PP{W}{st:LSt}{aV bg bq}(aZ:w.heap.size<=I)(k:Kept 0 0 w W)(h:W.ownsRow I 3 1 aV st.ins.length (st.ins.map (Value.int .i64))/\W.ownsRow I 79 6 bg st.vs.length (fU st.vs)/\W.ownsRow I 3 1 bq st.outs.length (st.outs.map (Value.int .i64))/\Apart aV bg/\Apart aV bq/\Apart bg bq)(J:∀v∈st.vs,v.k<18446744073709551616):∃a1 c1 K c2 a3 c3,aV=.slice a1 st.ins.length c1/\bg=.slice K st.vs.length c2/\bq=.slice a3 st.outs.length c3/\DG W w.heap.size aV bg bq st.ins st.vs st.outs:=by
 obtain⟨a1,c1,ad⟩:=iH h.1;obtain⟨K,c2,be⟩:=iH h.2.1;obtain⟨a3,c3,ah⟩:=iH h.2.2.1;exact⟨_,_,_,_,_,_,ad,be,ah,gi h.1 aZ,gi h.2.1 aZ,gi h.2.2.1 aZ,h.2.2.2.1,h.2.2.2.2.1,h.2.2.2.2.2,J,k.size⟩
theorem Ix(hb:∀i,nv bs i<256){T t j r}
  (k:∀{w:World}{P n cap:Nat}{a:Option Addr},RdF w P a n cap (ni bs i) bs->Calls prog 65 #[ge P] w (SrO w P n cap a bs j t))
  (d8:∀{w:World}{a:Option Addr}{cap:Nat},TxA w a t.length t->t.length<=cap->Calls prog 64 #[.slice a t.length cap] w (PaZ w (w.heap.size+1) r))
  (bh:((nv bs i:Int)%4=0/\T=qu bs (ni bs i))\/((nv bs i:Int)%4=1/\∃st,r=.ok st/\T=(st.ins,st.vs.map sv,st.outs,j))\/((nv bs i:Int)%4=1/\∃p,r=.error (0,p)/\T=([],[],[],j))\/((nv bs i:Int)%4=1/\∃c p,c≠0/\r=.error (c,p)/\V (T=rsT bs j))\/((nv bs i:Int)%4≠0/\(nv bs i:Int)%4≠1/\V (T=rsT bs (ni bs i))))
 (X:RdF w P a n cap i bs):Calls prog 35 #[ge P] w (DgT w P a n cap bs T):=by
  have hP:=X.lt;have bj:=eA 0 0 w fO;have bu:V _:=iD _ P a n _ i _ (X.keep0 bj);have x:V _:=bj;clear X bj;go_enter func35,ntmps35;go_upto_region 2 with (go_at_call 11;refine yaj bu.o ?_;rintro e aq ⟨rfl,(cg:V _),ap,-⟩;have aA:V _:=(eZ x.o).trans ap;have ao:V (RB _ _ iM iM iM):=(iU w).kept ap xaa;clear ap);clear bu x;rcases bh with⟨c4,bY⟩|⟨c4,st,au,rfl⟩|⟨c4,p,au,rfl⟩|⟨c4,c,p,ai,au,HE⟩|⟨c0,c1,HE⟩
  ·have bM:V (Calls prog 63 #[ge P] aq (DgT aq P a n cap bs T)):=by rw[bY];exact Qf cg.o
   clear bY;go_wp2_with (go_at_call 63;refine yaj bM.o ?_;rintro e aM ⟨a1,c1,K,c2,a3,c3,vs,rfl,bc,d,F,a9⟩;obtain⟨hb,(aO:V _)⟩:=DgF.up ao.o hP aA.o bc d F a9;obtain⟨_,bo,ar,aQ,bR,bV,bW⟩:=hb;clear bc d F a9);obtain⟨bG,bn,p2⟩:=fd _ _ _ _ _ bo ar aQ (.slice a1 T.1.length c1) (.slice K vs.length c2) (.slice a3 T.2.2.1.length c3);exact yaz (v:=eX a1 T.1.length c1 K vs.length c2 a3 T.2.2.1.length c3) (by simp[results,results35,go_sem,bG,bn,p2]) rfl aO.o
  ·subst au;have b:V _:=k cg.o;go_upto_region 6 with (first
   |(go_at_call 65;refine yaj b.o ?_;rintro e aM ⟨g,az,rfl,l,bK,(cn:V _),a9⟩;have an:V _:=d8 (Bk bK) l;have bZ:V _:=aA.o.trans a9;have b7:V _:=ao.o.kept a9 xaa;clear l bK a9)
   |(go_at_call 64;refine yaj an.o ?_;rintro e cd ⟨aV,bg,bq,rfl,cy,ck,Z,f,m,q,am,bS⟩;obtain⟨a1,c1,K,c2,a3,c3,ad,be,ah,d⟩:=PP (Nat.le_succ _) bS ⟨cy,ck,Z,f,m,q⟩ am.k;subst ad be ah;have HD:V _:=d;have b0:V _:=bS;clear cy ck Z f m q am bS d))
   have a5:=b0.o.trans (eA 0 0 _ (.cells #[.slice a1 st.ins.length c1,.slice K st.vs.length c2,.slice a3 st.outs.length c3] 73));obtain⟨hb,(aO:V _)⟩:=DgF.up b7.o hP bZ.o rfl (HD.o.keep (eA 0 0 _ _)) (cn.o.keep0 a5) (eZ a5);obtain⟨_,bo,ar,aQ,bR,bV,bW⟩:=hb;clear a5;go_wp2_with fail;obtain⟨bG,bn,p2⟩:=fd _ _ _ _ _ bo ar aQ (.slice a1 st.ins.length c1) (.slice K st.vs.length c2) (.slice a3 st.outs.length c3);exact yaz (v:=eX a1 st.ins.length c1 K st.vs.length c2 a3 st.outs.length c3) (by simp[results,results35,go_sem,bG,bn,p2]) rfl aO.o
  ·subst au;have b:V _:=k cg.o;go_upto_region 6 with (first
   |(go_at_call 65;refine yaj b.o ?_;rintro e aM ⟨g,az,rfl,l,bK,(cn:V _),a9⟩;have an:V _:=d8 (Bk bK) l;have bZ:V _:=aA.o.trans a9;have b7:V _:=ao.o.kept a9 xaa;clear l bK a9)
   |(go_at_call 64;refine yaj an.o ?_;rintro e cd ⟨rfl,(b0:V _)⟩))
   have b6:=eA 0 0 cd fO;have a5:=b0.o.trans b6;have d:DG _ _ iM iM iM [] [] []:=⟨yaw _ _ _ _,yaw _ _ _ _,yaw _ _ _ _,(λ_ h=>by cases h),(λ_ h=>by cases h),(λ_ h=>by cases h),(λ_ h=>by cases h),b0.o.size⟩
   obtain⟨hb,(aO:V _)⟩:=DgF.up (ins:=[]) (vs:=[]) (outs:=[]) (S:=[]) b7.o hP bZ.o rfl (d.keep b6) (cn.o.keep0 a5) (eZ a5);obtain⟨_,bo,ar,aQ,bR,bV,bW⟩:=hb;clear a5 b6 d;go_wp2_with fail;obtain⟨bG,bn,p2⟩:=fd _ _ _ _ _ bo ar aQ iM iM iM;exact yaz (v:=eX none 0 0 none 0 0 none 0 0) (by simp[results,results35,go_sem,bG,bn,p2]) rfl aO.o
  ·subst au;have b:V _:=k cg.o;go_upto_region 6 with (first
   |(go_at_call 65;refine yaj b.o ?_;rintro e aM ⟨g,az,rfl,l,bK,(cn:V _),a9⟩;have an:V _:=d8 (Bk bK) l;have bZ:V _:=aA.o.trans a9;have b7:V _:=ao.o.kept a9 xaa;clear l bK a9)
   |(go_at_call 64;refine yaj an.o ?_;rintro e cd ⟨rfl,(b0:V _)⟩))
   have a5:=b0.o.trans (eA 0 0 _ fO);go_upto_if 37 with fail
   refine wp_cond_false (congrArg _ (yan ai)) (wp_skip ?_);exact(‹∀(a:Act) (w:World),Code.wp _ _ _ a w->_›) _ _ (Gv hb (cn.o.keep0 a5) (bZ.o.trans (eZ a5)) (b7.o.keep a5) hP HE.o)
  go_upto_if 28 with fail
  refine wp_cond_false (congrArg _ (yan c1)) (wp_skip ?_);exact(‹∀(a:Act) (w:World),Code.wp _ _ _ a w->_›) _ _ (Gv hb cg.o aA.o ao.o hP HE.o)
variable{bs:List Int}
theorem dgD(hb:∀i,nv bs i<256)(i):∃T,∀{w:World}{P n cap:Nat}{a:Option Addr},RdF w P a n cap i bs->Calls prog 35 #[ge P] w (DgT w P a n cap bs T):=by
 obtain⟨t,j,bp,aw⟩:=Qd hb (ni bs i);obtain⟨r,aA⟩:=psD t bp;by_cases c0:nv bs i%4=0
 ·exact⟨_,λX=>Ix hb aw aA (.inl ⟨by omega,rfl⟩) X⟩
 by_cases c1:nv bs i%4=1
 ·have Z:(nv bs i:Int)%4=1:=xaa;rcases r with⟨c,p⟩|st
  ·by_cases aj:c=0
   ·subst aj;exact⟨_,λX=>Ix hb aw aA (.inr (.inr (.inl ⟨Z,p,rfl,rfl⟩))) X⟩
   exact⟨_,λX=>Ix hb aw aA (.inr (.inr (.inr (.inl ⟨Z,c,p,aj,rfl,rfl⟩)))) X⟩
  exact⟨_,λX=>Ix hb aw aA (.inr (.inl ⟨Z,_,rfl,rfl⟩)) X⟩
 exact⟨_,λX=>Ix hb aw aA (.inr (.inr (.inr (.inr ⟨by omega,by omega,rfl⟩)))) X⟩
theorem x9{W F l h}(k:Kept 0 0 w W)(y:Kept l h W F)(ag:w.heap.size<=l):Kept 0 0 w F:=
 ⟨y.os.trans k.os,y.tape.trans k.tape,y.output.trans k.output,yao k.size y.size,λb hb _=>by rw[y.block b (i4 k.size) xaa];exact k.block b hb xaa⟩
abbrev CT:Type:=List Int×List Ste×List Spn×Int×Nat
structure CdOK(T:CT):Prop where
 sv:SvOK T.1 T.2.1 T.2.2.1 T.2.2.2.1
 lo:T.2.2.1.length<=50
 f:∀k,k<T.2.1.length->∀y∈fx (T.2.1.getD k Ste.zero),0<=y/\y<=60000
 p:0<=T.2.2.2.1/\T.2.2.2.1<=60000
 p1:0<T.2.1.length->1<=T.2.2.2.1
theorem oX(h:us.map nk=af.map nk):us.length=af.length/\∀k,nk (us.getD k Ste.zero)=nk (af.getD k Ste.zero):=
 ⟨by simpa using congrArg List.length h,λk=>by rw[<-x8,h,x8]⟩
theorem Iy(h:us.map nk=af.map nk)(k):fx (us.getD k Ste.zero)=fx (af.getD k Ste.zero):=by
 have e:=congrArg fx ((oX h).2 k);exact e
theorem SvOK.like(f:SvOK ins af ba ay)(h:us.map nk=af.map nk):SvOK ins us ba ay:=
 ⟨f.li,by rw[(oX h).1];exact f.ls,f.lo,f.i,λk J=>by
  have e:=congrArg Ste.op ((oX h).2 k)
  change (us.getD k Ste.zero).op=(af.getD k Ste.zero).op at e
  rw[Iy h,e]
  exact f.s k (by rw[<-(oX h).1];exact J),f.o,f.p⟩
theorem vO(h:us.map nk=af.map nk):qC us=qC af:=by
 have e:∀l:List Ste,qC (l.map nk)=qC l:=λl=>by unfold qC;rw[List.any_map];rfl
 rw[<-e us,h,e]
theorem OJ{k G}(h:okG G.1 G.2.1 G.2.2.1=true):CdOK (cdM k G):=by
 obtain⟨c1,c2,c3⟩:=Hc h (k==0);obtain⟨⟨_,_,cK⟩,_⟩:=jZ h;refine⟨KK h _,?_,λj hj y bK=>?_,c2,λaj=>c3 ?_⟩
 ·show(List.map _ _).length<=50;rw[List.length_map];exact cK
 ·have z:j<G.2.1.length:=by simpa[cdM,jT] using hj
  have m:y∈fx ((gj G.2.1 (plD (k==0) G.2.1 G.2.2.1) G.2.1.length).getD j Ste.zero):=bK;rw[Hb z]at m;exact(c1 j z).2 y m
 simpa[cdM,jT] using aj
theorem Eh(hb:∀i,nv bs i<256)(i):∃T:CT,CdOK T/\∀{w:World}{P n cap:Nat}{a:Option Addr},RdF w P a n cap i bs->Calls prog 12 #[ge P] w (CdT w P a n cap bs T):=by
 obtain⟨T1,B⟩:=dgD hb (dgO bs (ni bs i)).2;exact⟨cdM (nv bs i%8) (pkG (nv bs i%8) ((dgI bs (ni bs i)).1,(dgG bs (ni bs i)).1,(dgO bs (ni bs i)).1,(dgO bs (ni bs i)).2) T1),OJ (Io (L7 bs (ni bs i))),λX=>Bl X (λW h=>AP h) (λW h=>B h) (L7 bs (ni bs i))⟩
def spT(bs:List Int)(T:CT):CT:=
 if T.2.1.length=0 then T else (T.1,spL (nv bs T.2.2.2.2%12) (nv bs (ni bs T.2.2.2.2)) T.2.1,spO (nv bs T.2.2.2.2%12) (nv bs (ni bs T.2.2.2.2)) T.2.2.1,spP (nv bs T.2.2.2.2%12) (nv bs (ni bs T.2.2.2.2)) T.2.2.2.1,0)
theorem Lt{T}(h:CdOK T):(spT bs T).2.1.length<=2000:=by
 have:=h.sv.ls;unfold spT;split
 ·exact this
 show(spL _ _ _).length<=2000;unfold spL;rw[List.length_set];exact this
theorem Iz{T}(h:CdOK T)(hb:∀i,nv bs i<256)(hn:qC (spT bs T).2.1=false):SvOK (spT bs T).1 (spT bs T).2.1 (spT bs T).2.2.1 (spT bs T).2.2.2.1:=by
 unfold spT at hn⊢;by_cases c:T.2.1.length=0
 ·rw[iv c];exact h.sv
 rw[ip c]at hn⊢;exact KL _ _ h.sv h.lo (λj hj y bK=>i4 (h.f j hj y bK)) ⟨h.p1 xaa,h.p.2⟩ (hb _) hn xaa
theorem OK(b8:OCd w I (.slice a1 Y c1) (.slice K ae c2) (.slice a3 aa c3) ins [] ba)(X:RdF w P a n cap i bs)(hP:P<I)(aZ:I<=w.heap.size)(G:S P)(m:∀b,(Value.slice a3 aa c3).ownBlock=some b->S b):
  Calls prog 15 #[jh a1 Y c1 K ae c2 a3 aa c3 ay,ge P] w λe O=>e=.returned (jh a1 Y c1 K ae c2 a3 aa c3 ay)/\OCd O I (.slice a1 Y c1) (.slice K ae c2) (.slice a3 aa c3) ins [] ba/\Chg S w O:=by
 have be:ae=0:=f4 b8.r2;subst be;have bF:=eA 0 0 w (im a1 Y c1 K 0 c2 a3 aa c3 ay);have ap:=eA 0 0 (w.alloc (im a1 Y c1 K 0 c2 a3 aa c3 ay)) gK;have b5:(w.alloc (im a1 Y c1 K 0 c2 a3 aa c3 ay)).heap.size=w.heap.size+1:=by simp
 have bM:KB (w.alloc (im a1 Y c1 K 0 c2 a3 aa c3 ay)) w.heap.size (.slice a1 Y c1) (.slice K 0 c2) (.slice a3 aa c3) (ih ay):=by
  refine⟨?_,?_,?_,?_,?_,?_,?_,?_,?_⟩<;>simp
 have J:=kz (w.alloc (im a1 Y c1 K 0 c2 a3 aa c3 ay));rw[b5]at J;have bi:V (Cy w S _ P a n cap i bs I w.heap.size _ _ _ ins [] ba ay):=⟨(X.keep bF yab).keep ap yab,(b8.keep bF).keep ap,bM.keep ap,J,⟨hP,aZ⟩,λb hb=>.inl (by rcases hb with h|h|h;exact(eF b8.r1 h).2;exact(eF b8.r2 h).2;exact(eF b8.r3 h).2),(bF.trans ap).chg,⟨G,yad⟩,λb h=>.inl (m b h)⟩
 have bu:V _:=λW i f=>iD W P a n cap i bs f;clear b8 X bF ap b5 bM J G m;go_enter func15,ntmps15;go_wp2_with fail;generalize (w.alloc _).alloc _=W0 at bi⊢;refine yaj (bu.o _ _ bi.o.rd) ?_;rintro e aq ⟨rfl,R1,ap,aV⟩;have aw:V _:=bi.o.next ap R1;clear R1 ap aV bi;go_wp2_with fail;refine yaj (bu.o _ _ aw.o.rd) ?_;rintro e bU ⟨rfl,R2,aC,bg⟩;have cC:V _:=aw.o.next aC R2;clear R2 aC bg aw bu;obtain⟨_,aU,ax,aF,bv,_,_,_,_⟩:=cC.o.bx;obtain⟨_,bo,ar,aQ,aN,bR,bV,bW,dg⟩:=cC.o.rs;go_wp2_with fail;obtain⟨a8,aJ,aP,bw⟩:=iN bU (w.heap.size+1) _ _ _ _ bo ar aQ aN (.slice a1 Y c1) (.slice K 0 c2) (.slice a3 aa c3) (ih ay);have bS:=fR bU (w.heap.size+1) (.slice a1 Y c1) (.slice K 0 c2) (.slice a3 aa c3) (ih ay);refine yaz (v:=jh a1 Y c1 K 0 c2 a3 aa c3 ay) (by simp[results,results15,go_sem,a8,aJ,aP,bw]) rfl ⟨rfl,?_,cC.o.ch.new bS.chgS λi B N=>by omega⟩;exact cC.o.cd.keepO (bS.chg1 (S:=λb=>b=w.heap.size+1) rfl) λb hb c=>i4 (cC.o.nr b hb)
theorem OL{T}(bh:CdOK T)(ag:us.map nk=T.2.1.map nk)(b8:OCd w I (.slice a1 Y c1) (.slice K ae c2) (.slice a3 aa c3) T.1 us T.2.2.1)(X:RdF w P a n cap T.2.2.2.2 bs)(hP:P<I)(aZ:I<=w.heap.size)(G:S P)(b0:∀b,(Value.slice K ae c2).ownBlock=some b->S b)(m:∀b,(Value.slice a3 aa c3).ownBlock=some b->S b):
  Calls prog 15 #[jh a1 Y c1 K ae c2 a3 aa c3 T.2.2.2.1,ge P] w λe O=>∃U m3 ab,∃d:List Ste,e=.returned (jh a1 Y c1 K ae c2 U m3 ab (spT bs T).2.2.2.1)/\d.map nk=(spT bs T).2.1.map nk/\OCd O I (.slice a1 Y c1) (.slice K ae c2) (.slice U m3 ab) (spT bs T).1 d (spT bs T).2.2.1/\Chg S w O/\∀b,(Value.slice U m3 ab).ownBlock=some b->S b\/w.heap.size<=b:=by
 have a6:=(oX ag).1;unfold spT;by_cases c:T.2.1.length=0
 ·rw[iv c];obtain rfl:us=[]:=List.eq_nil_of_length_eq_zero xaa;refine(OK b8 X hP aZ G m).mono ?_;rintro e O ⟨rfl,B,N⟩;exact⟨_,_,_,_,rfl,ag,B,N,λb h=>.inl (m b h)⟩
 rw[ip c];refine(Oe b8 X hP aZ xaa (i4 bh.sv.ls) bh.lo bh.p (λs aw y bK=>?_) G b0 m).mono ?_
 ·obtain⟨j,hj,rfl⟩:=List.getElem_of_mem aw;have e:us[j]=us.getD j Ste.zero:=by rw[yai,yam hj];rfl
  rw[e,Iy ag]at bK;exact bh.f j xaa y bK
 rintro e O ⟨U,m3,ab,rfl,B,_,N,h3⟩;exact⟨_,_,_,_,rfl,Od _ _ ag,B,N,h3⟩
def dlM(bs:List Int)(k v:Nat)(T:CT):List Int:=
 if k=0 then (iQ T.1 T.2.1 T.2.2.1 T.2.2.2.1).set (v%(iQ T.1 T.2.1 T.2.2.1 T.2.2.2.1).length) ((v/3%256:Nat):Int)
 else if k=1 then (iQ T.1 T.2.1 T.2.2.1 T.2.2.2.1).take (v%(iQ T.1 T.2.1 T.2.2.1 T.2.2.2.1).length)
 else if k=2 then iQ T.1 T.2.1 T.2.2.1 T.2.2.2.1++[((v%256:Nat):Int)]
 else if k=3 then bs.drop T.2.2.2.2
 else if k=4/\qC (spT bs T).2.1=false then iQ (spT bs T).1 (spT bs T).2.1 (spT bs T).2.2.1 (spT bs T).2.2.2.1
 else iQ T.1 T.2.1 T.2.2.1 T.2.2.2.1
def DbO(w:World)(ys:List Int)(e:Ending)(w':World):Prop:=
 ∃a cap,e=.returned (.slice a ys.length cap)/\YS w' a ys.length ys/\ys.length<=cap/\cap<=9223372036854775807/\Kept 0 0 w w'
theorem rl(o:SvOK ins af ba ay):0<(iQ ins af ba ay).length/\(iQ ins af ba ay).length<=100000:=by
 have B:=o.li;have N:=o.ls;have h3:=o.lo;have bp:=kB af;unfold iQ;simp only[yal,gI,kD,lu,yaq,List.length_nil];omega
theorem YB.dbo{W v ys}(f:YB W I v ys)(ag:∀x∈ys,0<=x/\x<256)(k:Kept 0 0 w W):DbO w ys (.returned v) W:=by
 obtain⟨g,a,cap,rfl,h,_⟩:=f.yz;refine⟨a,cap,rfl,h.ys ag,?_⟩;rcases f.2 with⟨e,bB⟩|⟨aI,cap',ao,e,_,_,ad,be,_⟩
 ·injection e with _ _ q;exact⟨by omega,by omega,k⟩
 injection e with _ _ q;unfold maxLen at be;exact⟨by omega,by omega,k⟩
theorem Lu{W:World}{e s m c:Nat}{xs}(h:W.ownsRow I e s (.slice a n c) m xs):m<=c:=by
 rcases h.2 with⟨q,bB⟩|⟨aI,cap',ao,q,_,_,ad,_⟩
 ·omega
 injection q with _ _ q;omega
theorem IA(hb:∀i,nv (xs.take 500) i<256):∃ys:List Int,ys.length<=1000000/\∀{w:World}{a:Option Addr}{n cap:Nat},YS w a n xs->n<=cap->cap<=9223372036854775807->Calls prog 4 #[.slice a n cap] w (DbO w ys):=by
 obtain⟨T,bh,bI⟩:=Eh hb (ni (xs.take 500) (ni (xs.take 500) (ni (xs.take 500) 0)));refine⟨dlM (xs.take 500) (nv (xs.take 500) 0%8) (nv (xs.take 500) (ni (xs.take 500) 0)*256+1+nv (xs.take 500) (ni (xs.take 500) (ni (xs.take 500) 0))) T,?_,λ{w a n cap} h ai bQ=>?_⟩
 ·obtain⟨_,cw⟩:=rl bh.sv;have cK:=List.length_take_le 500 xs;have bm:qC (spT (xs.take 500) T).2.1=false->_:=λq=>rl (Iz bh hb q);unfold dlM;split
  ·rw[List.length_set];omega
  split
  ·rw[List.length_take];omega
  split
  ·rw[yal];show _+1<=_;omega
  split
  ·rw[List.length_drop];omega
  split
  ·rename_i q;have:=bm q.2;omega
  omega
 have HO:V _:=Nj w a n _ _ h ai;have Z:V (∀m,(xs.take 500).length=m->m<=cap):=λm e=>jj h.len (List.length_take_le' 500 xs)
 have HD:V _:=@bI;have bL:V _:=bh;have bD:V _:=hb;have cC:V _:=bQ;clear bI hb bh h ai bQ;generalize xs.take 500=bs at HO HD Z bD⊢;obtain⟨k,J⟩:∃k,nv bs 0%8=k:=⟨_,rfl⟩
 obtain⟨v,aL⟩:∃v,nv bs (ni bs 0)*256+1+nv bs (ni bs (ni bs 0))=v:=⟨_,rfl⟩
 rw[J,aL];obtain⟨l,bd⟩:∃z,dlM bs k v T=z:=⟨_,rfl⟩
 rw[bd];have d:V _:=bd;unfold dlM at d;have cO:V _:=J;have cT:V _:=aL;clear J aL bd;go_enter func4,ntmps4;go_wp2_with fail;refine yaj HO.o ?_;rintro e aq ⟨rfl,⟨m,(cg:V _)⟩,(aA:V _)⟩;have bu:V _:=λW i f=>iD W w.heap.size a m cap i bs f;have d3:V _:=Z.o m cg.o.ys.len;clear HO Z;have u0:=bD.o 0;have u1:=bD.o (ni bs 0);have u2:=bD.o (ni bs (ni bs 0));go_wp2_with fail;refine yaj (bu.o _ _ cg.o) ?_;rintro e bU ⟨rfl,(aI:V _),aC,bg⟩;have bN:V _:=x9 aA.o aC yad;clear aC bg cg aA;go_wp2_with fail;refine yaj (bu.o _ _ aI.o) ?_;rintro e aM ⟨rfl,(cn:V _),a9,bq⟩;have bZ:V _:=x9 bN.o a9 yad;clear a9 bq aI bN;go_wp2_with fail;refine yaj (bu.o _ _ cn.o) ?_;rintro e cd ⟨rfl,(aU:V _),bS,bB⟩;have b0:V _:=x9 bZ.o bS yad;clear bS bB cn bZ bu;go_wp2_with fail;have bz:(nv bs 0:Int)%8=(k:Int):=i4 cO.o
 have ci:(nv bs (ni bs 0):Int)*256+1+(nv bs (ni bs (ni bs 0)):Int)=(v:Int):=i4 cT.o
 have cP:k<8:=i4 cO.o
 have di:v<70000:=i4 cT.o
 rw[bz,ci];clear bz ci u0 u1 u2 cO cT;refine yaj (HD.o aU.o) ?_;rintro e bP ⟨a1,Y,c1,K,ae,c2,a3,aa,c3,af,rfl,ax,cB,F,a5⟩;have co:=bL.o;have ad:=f4 cB.r1;have be:=f4 cB.r2;have ah:=f4 cB.r3;have bj:=eA 0 0 bP (im a1 Y c1 K ae c2 a3 aa c3 T.2.2.2.1);have aG:V _:=Be (bP.alloc (im a1 Y c1 K ae c2 a3 aa c3 T.2.2.2.1)) a1 K a3 Y c1 ae c2 aa c3 T.2.2.2.1 T.1 af T.2.2.1 ((cB.keep bj).cs ad.symm be.symm ah.symm) (co.sv.like ax);rw[oW ax]at aG;have cF:V _:=cB.keep bj;have cR:V _:=F.keep bj yab
 have ar:V (KB (bP.alloc (im a1 Y c1 K ae c2 a3 aa c3 T.2.2.2.1)) bP.heap.size (.slice a1 Y c1) (.slice K ae c2) (.slice a3 aa c3) (ih T.2.2.2.1)):=by
  refine⟨?_,?_,?_,?_,?_,?_,?_,?_,?_⟩<;>simp
 have aZ:V _:=(x9 b0.o a5 yad).trans bj;have bE:V (cd.heap.size<=bP.heap.size/\w.heap.size<cd.heap.size):=⟨a5.size,aU.o.lt⟩
 have aD:V (∀b,((Value.slice a1 Y c1).ownBlock=some b\/(Value.slice K ae c2).ownBlock=some b\/(Value.slice a3 aa c3).ownBlock=some b)->_):=λb hb=>by
  rcases hb with h|h|h
  ·exact eF cB.r1 h
  ·exact eF cB.r2 h
  ·exact eF cB.r3 h
 have bi:V _:=ax;obtain⟨b1,cp⟩:=rl co.sv;have bF:V _:=sw co.sv;clear cB F a5 bj ad be ah ax co aU b0;go_wp2_with fail;generalize bP.alloc (im a1 Y c1 K ae c2 a3 aa c3 T.2.2.2.1)=ch at aG cF cR ar aZ⊢;refine yaj aG.o ?_;rintro e aj ⟨ec,rfl,bK,b7⟩;have db:V _:=cF.o.keep b7;have cS:V _:=cR.o.keep b7 yab;have cG:V _:=ar.o.keep b7;have aW:V _:=aZ.o.trans b7;have d5:V _:=ar.o.sz;generalize iQ T.1 T.2.1 T.2.2.1 T.2.2.2.1=O at bK b1 cp bF d;obtain⟨g,bT,rfl,az,aK,bx⟩:=bK.at_ b1;have bv:V _:=bK;have a0:V (ch.heap.size<=g/\g<aj.heap.size):=⟨az,aK⟩
 clear bK b7 aG cF cR ar aZ az aK;obtain⟨j,hj⟩:∃j,v%O.length=j:=⟨_,rfl⟩
 rw[hj]at d;have dd:j<O.length:=by rw[<-hj];exact Nat.mod_lt _ b1
 have u:(v:Int).tmod (O.length:Int)=j:=by rw[Int.tmod_eq_emod_of_nonneg xaa,<-hj];exact(Int.natCast_emod _ _).symm
 have dv:(v:Int)%O.length=(j:Int):=by rw[<-hj];exact(Int.natCast_emod _ _).symm
 have bc:¬(O.length:Int)=0:=xaa;have d7:¬O=[]:=λe=>by rw[e]at b1;exact Nat.lt_irrefl _ b1
 clear hj;go_upto_if 33 with fail
 rcases (by omega:k=0\/k=1\/k=2\/k=3\/k=4\/5<=k) with rfl|rfl|rfl|rfl|rfl|aT
 ·have e:O.set j ((v/3%256:Nat):Int)=l:=by rw[<-d.o,iv rfl]
  have cD:=l7 bv.o j;have ai:=bx j dd;clear bx d
  have aO:V (DbO w l (.returned (ia g O.length bT)) (aj.setCell ⟨g,j,none⟩ (.int .u8 ((v:Int)/3%256)))):=by
   have bK:YB (aj.setCell ⟨g,j,none⟩ (.int .u8 ((v:Int)/3%256))) ch.heap.size (ia g O.length bT) l:=by
    have h:=(bv.o.stored j (.int .u8 ((v:Int)/3%256))).1;unfold YB;rw[<-e,List.length_set,List.map_set,show((v/3%256:Nat):Int)=(v:Int)/3%256 by omega];exact h
   refine YB.dbo bK (λx aH=>?_) (aW.o.newC (fh aj g j _ (S:=λb=>b=g) rfl) λb hb=>by have:=a0.o;have:=d5.o;have:=bE.o;omega);rw[<-e]at aH;rcases List.mem_or_eq_of_mem_set aH with c|c
   ·exact bF.o x c
   omega
  clear e;go_wp2_with fail;go_ret;exact aO.o
 ·have e:O.take j=l:=by rw[<-d.o,ip xaa,iv rfl]
  have d6:=bx;clear bx d;have cI:j<=bT:=i4 (Lu bv.o)
  have aO:V (DbO w l (.returned (ia g j bT)) aj):=by
   have ag:l.length=j:=by rw[<-e,List.length_take];omega
   obtain⟨ak,cap',ad,h,be,ah,e4⟩:=YB.dbo bv.o bF.o aW.o;injection ad with ad;injection ad with cl _ aQ;subst cl aQ;rw[<-ag];refine⟨_,_,rfl,⟨rfl,λx aH=>bF.o x (by rw[<-e]at aH;exact List.mem_of_mem_take aH),.inr ⟨g,0,rfl,a0.o.2,λk J=>?_⟩⟩,by omega,ah,e4⟩;rw[Nat.zero_add,d6 k xaa,<-e,yai,yai,List.getElem?_take_of_lt xaa]
  clear e;go_wp2_with fail;go_ret;exact aO.o
 ·have e:O++[((v%256:Nat):Int)]=l:=by rw[<-d.o,ip xaa,ip xaa,iv rfl]
  clear bx d;have da:0<=(v:Int)%256/\(v:Int)%256<256:=xaa;have c6:=a0.o;have bM:V (YB (aj.alloc (.cells #[.int .u8 ((v:Int)%256)] 5)) ch.heap.size (ia g O.length bT) O):=YB.keep bv.o (eA 0 0 _ _);have HE:V (O++[(v:Int)%256]=l):=by show _=_;rw[<-e,show((v%256:Nat):Int)=(v:Int)%256 by omega]
  clear e;go_wp2_with (at_builtin;refine fF _ rfl _ _ rfl ch.heap.size (ia g O.length bT) O rfl bM.o ⟨aj.heap.size,0,none⟩ 1 1 [(v:Int)%256] rfl rfl (lD aj #[.int .u8 ((v:Int)%256)] [(v:Int)%256] rfl) xaa xaa yag ?_;intro g9 cap9 n9 a7 a2 H bk bp;have cj:V _:=H;have cx:V _:=bk;have al:V _:=a2;clear a2 H bk bp);go_ret
  have C:=(aW.o.trans (eA 0 0 _ _)).newC cx.o λb hb=>by
   have e:g=b:=by simpa[Value.ownBlock] using hb
   have:=a0.o;have:=d5.o;have:=bE.o;omega
  have aR:=cj.o;rw[HE.o]at aR;refine YB.dbo aR (λx aH=>?_) C;rw[<-HE.o]at aH;rcases List.mem_append.1 aH with c|c
  ·exact bF.o x c
  rw[List.mem_singleton.1 c];omega
 ·have e:bs.drop T.2.2.2.2=l:=by rw[<-d.o,ip xaa,ip xaa,ip xaa,iv rfl]
  clear bx d;have HR:V _:=PF cS.o d3.o cC.o;go_wp2_with fail;refine yaj HR.o ?_;rintro R an ⟨cq,aX,rfl,bW,a2,bk,C⟩
  have aO:V (DbO w l (.returned (.slice cq (m-T.2.2.2.2) aX)) an):=by
   have ag:=bW.len;rw[e]at ag bW;rw[<-ag]at bW a2⊢;exact⟨_,_,rfl,bW,a2,bk,aW.o.trans C⟩
  clear bW a2 bk C HR;go_wp2_with fail;go_ret;exact aO.o
 ·have cV:qC (spT bs T).2.1=true->O=l:=λq=>by rw[<-d.o,ip xaa,ip xaa,ip xaa,ip xaa,ip (λc=>by rw[q]at c;exact absurd c.2 xac)]
  have cW:qC (spT bs T).2.1=false->iQ (spT bs T).1 (spT bs T).2.1 (spT bs T).2.2.1 (spT bs T).2.2.2.1=l:=λq=>by rw[<-d.o,ip xaa,ip xaa,ip xaa,ip xaa,iv ⟨rfl,q⟩]
  have c8:=Iz (bs:=bs) bL.o bD.o;have d4:V _:=OL (bs:=bs) (S:=λb=>b=w.heap.size\/(Value.slice K ae c2).ownBlock=some b\/(Value.slice a3 aa c3).ownBlock=some b) bL.o bi.o db.o cS.o bE.o.2 (by have:=bE.o;have:=d5.o;have:=a0.o;omega) (.inl rfl) (λb h=>.inr (.inl h)) (λb h=>.inr (.inr h));have bo:=Lt (bs:=bs) bL.o;generalize spT bs T=b8 at cV cW c8 d4 bo;have a6:V _:=cV;have X:V _:=cW;have bl:V _:=c8;obtain⟨_,bX,aV,bg,bq,_,_,_,_⟩:=cG.o;clear bx d cV cW c8 dd u dv bc d7 b1;go_wp2_with fail;refine yaj d4.o ?_;rintro e bb ⟨U,m3,ab,us,rfl,cH,dc,cc,ds⟩;have cQ:=bE.o;have eb:=d5.o;have cA:=a0.o
  have bn:¬(bP.heap.size=w.heap.size\/(Value.slice K ae c2).ownBlock=some bP.heap.size\/(Value.slice a3 aa c3).ownBlock=some bP.heap.size):=by
   exact xhw
  have bR:¬(g=w.heap.size\/(Value.slice K ae c2).ownBlock=some g\/(Value.slice a3 aa c3).ownBlock=some g):=by
   exact xhw
  have cJ:(Value.slice U m3 ab).ownBlock≠some bP.heap.size:=λc=>by
   rcases ds _ c with q|q
   ·exact bn q
   ·omega
  have t:=cG.o.keepC cc bn;obtain⟨bC,bH,bJ,cb⟩:=iN bb bP.heap.size _ _ _ _ t.q0 t.q1 t.q2 t.q3 (.slice a1 Y c1) (.slice K ae c2) (.slice U m3 ab) (ih b8.2.2.2.1);have bS:=fR bb bP.heap.size (.slice a1 Y c1) (.slice K ae c2) (.slice U m3 ab) (ih b8.2.2.2.1);have bA:V (bP.heap.size<(setC4 bb bP.heap.size (.slice a1 Y c1) (.slice K ae c2) (.slice U m3 ab) (ih b8.2.2.2.1)).heap.size/\_/\_/\_/\_):=⟨yak t.sz bS.size,bC,bH,bJ,cb⟩
  have aF:V _:=dc.keepO (bS.chg1 (S:=λb=>b=bP.heap.size) rfl) λb hb c=>by
   subst c
   rcases hb with h|h|h
   ·have:=aD.o _ (.inl h);omega
   ·have:=aD.o _ (.inr (.inl h));omega
   ·exact cJ h
  have cU:V _:=YB.keepC (YB.keepC bv.o cc λb hb c=>bR (by rw[show g=b by simpa[Value.ownBlock] using hb];exact c)) (bS.chg1 (S:=λb=>b=bP.heap.size) rfl) λb hb c=>by
   have:g=b:=by simpa[Value.ownBlock] using hb
   omega
  have av:V _:=(aW.o.newC cc λb hb=>by
   rcases hb with c|c|c
   ·omega
   ·have:=aD.o _ (.inr (.inl c));omega
   ·have:=aD.o _ (.inr (.inr c));omega).newC (bS.chg1 (S:=λb=>b=bP.heap.size) rfl) λb hb=>by omega
  have cy:=t.q0;have c7:=t.q1;have bO:=t.q2;have b9:=t.q3;have Q:=t.f0;have cu:=t.f1;have bV:=t.f2;have cX:=t.f3;have en:V _:=cH;clear cH dc cc ds bn bR cJ t bC bH bJ cb bS d4 db cS cG aW bX aV bg bq bv;go_wp2_with fail;unfold setC4 at bA aF cU av;generalize (((bb.setCell ⟨bP.heap.size,0,none⟩ (.slice a1 Y c1)).setCell ⟨bP.heap.size,1,none⟩ (.slice K ae c2)).setCell ⟨bP.heap.size,2,none⟩ (.slice U m3 ab)).setCell ⟨bP.heap.size,3,none⟩ (ih b8.2.2.2.1)=an at bA aF cU av⊢;clear cy c7 bO b9 Q cu bV cX;have dg:=f4 aF.o.r2;subst dg;have d1:us.length<=2000:=by rw[(oX en.o).1];exact bo
  clear bo
  have c9:V (∀q,q<us.length->((us.getD q Ste.zero).a<0\/(us.getD q Ste.zero).b<0\/(us.getD q Ste.zero).c<0\/(us.getD q Ste.zero).len<0)->∀W,Kept 0 0 an W->DbO w l (.returned (ia g O.length bT)) W):=λq am c W k=>by
   have hn:qC us=true:=List.any_eq_true.2 ⟨us[q],List.getElem_mem _,by
    have e:us.getD q Ste.zero=us[q]:=by rw[yai,yam am];rfl
    rw[e]at c
    simp only[Bool.or_eq_true,decide_eq_true_eq]
    omega⟩
   rw[<-a6.o (by rw[<-vO en.o];exact hn)]
   exact YB.dbo (YB.keep cU.o k) bF.o (av.o.trans k)
  go_loopw [9,10] (λck cN W=>∃q:Nat,q<=us.length/\ck=ih q/\(∀r,r<q->¬((us.getD r Ste.zero).a<0\/(us.getD r Ste.zero).b<0\/(us.getD r Ste.zero).c<0\/(us.getD r Ste.zero).len<0))/\V (Kept 0 0 an W)) (λck cN _=>us.length-(intOf ck).toNat)
  case atStart=>exact⟨0,yae,rfl,λr au=>absurd au (Nat.not_lt_zero r),Kept.refl _ _ _⟩
  case round=>
   obtain⟨q,am,rfl,(b2:V _),aS⟩:=hrel;obtain⟨_,bC,bH,bJ,cb⟩:=bA.o;have bX:=mH aS.o bA.o.1 bC;have aV:=mH aS.o bA.o.1 bH;have bg:=mH aS.o bA.o.1 bJ;have bq:=mH aS.o bA.o.1 cb;clear bC bH bJ cb;by_cases aY:q<us.length
   ·obtain⟨b4,cs,es,_,N,bf⟩:=ng (aF.o.r2) rfl aY;cases es;obtain⟨a8,aJ,aP,bw,b3,cf,cz,ce⟩:=bf.keep N aS.o yaa;have G:V (∀W,Kept 0 0 wr W->_):=λW k=>aS.o.trans k;have bG:V _:=λW k c=>c9.o q aY c W (aS.o.trans k)
    have cM:V (¬((us.getD q Ste.zero).a<0\/(us.getD q Ste.zero).b<0\/(us.getD q Ste.zero).c<0\/(us.getD q Ste.zero).len<0)->∀r,r<q+1->¬((us.getD r Ste.zero).a<0\/(us.getD r Ste.zero).b<0\/(us.getD r Ste.zero).c<0\/(us.getD r Ste.zero).len<0)):=λh r au=>by
     by_cases c:r=q
     ·rw[c];exact h
     ·exact b2.o r xaa
    generalize us.getD q Ste.zero=s at a8 aJ aP bw b3 cf cz ce bG cM;have bj:=eA 0 0 wr s.box;have ao:=λc=>bG.o _ bj c;have y:V _:=ao;have bN:V _:=G.o _ bj;clear bf aS b2 bG G ao bj;by_cases aB:s.a<0
    ·go_wp2_with fail;go_ret;exact y.o (.inl aB)
    have d8:=yay aB;by_cases hb:s.b<0
    ·go_wp2_with fail;go_ret;exact y.o (.inr (.inl hb))
    have d9:=yay hb;by_cases ai:s.c<0
    ·go_wp2_with fail;go_ret;exact y.o (.inr (.inr (.inl ai)))
    have ea:=yay ai;by_cases aN:s.len<0
    ·go_wp2_with fail;go_ret;exact y.o (.inr (.inr (.inr aN)))
    have cr:=yay aN;have br:V _:=cM.o xaa;clear cM y;go_wp2_with fail;go_roundw;exact⟨q+1,by omega,by go_num,br.o,bN⟩;simp[intOf];omega
   obtain rfl:q=us.length:=xaa
   have hn:qC us=false:=List.any_eq_false.2 λs aw=>by
    obtain⟨r,au,rfl⟩:=List.getElem_of_mem aw
    have e:us.getD r Ste.zero=us[r]:=by rw[yai,yam au];rfl
    have:=b2.o r au
    rw[e]at this
    simp only[Bool.or_eq_true,decide_eq_true_eq]
    omega
   have b5:qC b8.2.1=false:=by rw[<-vO en.o];exact hn
   have f1:=f4 aF.o.r1;have f3:=f4 aF.o.r3;have aG:V _:=Be wr a1 K U Y c1 us.length c2 m3 ab b8.2.2.2.1 b8.1 us b8.2.2.1 ((aF.o.keep aS.o).cs f1.symm rfl f3.symm) ((bl.o b5).like en.o);rw[oW en.o,X.o b5]at aG;have d2:V (∀x∈l,0<=x/\x<256):=by rw[<-X.o b5];exact sw (bl.o b5)
   have B:V _:=av.o.trans aS.o;clear hn b5 f1 f3 aS;go_wp2_with fail;refine yaj aG.o ?_;rintro R f7 ⟨d0,rfl,dl,C⟩;have aO:V _:=YB.dbo dl d2.o (B.o.trans C);clear dl C aG;go_wp2_with fail;go_ret;exact aO.o
 have e:O=l:=by rw[<-d.o,ip xaa,ip xaa,ip xaa,ip xaa,ip xaa]
 have bY:((k:Int)==0)=false:=by rw[beq_eq_false_iff_ne];omega
 have ca:((k:Int)==1)=false:=by rw[beq_eq_false_iff_ne];omega
 have ct:((k:Int)==2)=false:=by rw[beq_eq_false_iff_ne];omega
 have ew:((k:Int)==3)=false:=by rw[beq_eq_false_iff_ne];omega
 have hc:((k:Int)==4)=false:=by rw[beq_eq_false_iff_ne];omega
 have aO:V (DbO w l (.returned (ia g O.length bT)) aj):=by
  rw[<-e];exact YB.dbo bv.o bF.o aW.o
 clear bx d aT cP e;go_wp2_with fail;go_ret;exact aO.o
theorem IB(h:kI bs=true)(aw:af.map nk=(ssL bs).map nk):iJ (jW bs) af (osL bs) (pkL bs)=true/\ph (jW bs) af (osL bs) (pkL bs)=bs:=by
 unfold kI at h;rw[Bool.and_eq_true,beq_iff_eq]at h;obtain⟨B,N⟩:=h
 have e:ph (jW bs) af (osL bs) (pkL bs)=ph (jW bs) (ssL bs) (osL bs) (pkL bs):=by
  unfold ph;rw[Af aw,oW aw]
 rw[<-e]at N;refine⟨?_,N⟩;cases aL:iJ (jW bs) af (osL bs) (pkL bs)
 ·have f:=of_decide_eq_true B;unfold ph at N;rw[aL]at N;rw[<-N]at f;simp at f
 rfl
theorem Bn(h:YS w a n xs)(ai:n<=cap)(bQ:cap<=9223372036854775807):
  Calls prog 3 #[.slice a n cap] w λe O=>e=.returned (.bool true)/\Kept 0 0 w O:=by
 by_cases hn:1048576<n
 ·have aG:(1048576:Int)<n:=xaa;go_enter func3,ntmps3;go_wp2_with fail;go_ret;exact⟨rfl,Kept.refl _ _ _⟩
 have aG:¬(1048576:Int)<n:=xaa;obtain⟨ys,(U:V _),bI⟩:=IA (xs:=xs) (λi=>nvb (λx aH=>h.lt x (List.mem_of_mem_take aH)) i);have HD:V _:=λW (k:Kept 0 0 w W)=>bI (h.keep k) ai bQ;clear bI h ai bQ;go_enter func3,ntmps3;go_wp2_with fail;refine yaj (HD.o _ (Kept.refl _ _ _)) ?_;rintro e aq ⟨b,bT,rfl,(dl:V _),d,aD,(aA:V _)⟩;have HL:V _:=Iw aq b ys.length bT ys dl.o (i4 U.o);clear d aD;go_wp2_with fail;refine yaj HL.o ?_;rintro e bU ⟨a5,cj,aC⟩;have e1:V _:=dl.o.keep aC;have bN:V _:=aA.o.trans aC;clear HL dl aA aC;obtain⟨cR,F⟩:∃x,kI ys=x:=⟨_,rfl⟩
 have H:V _:=F;rcases cR with _|_
 ·obtain rfl:=a5 F;clear a5 cj F;have G:V _:=λv=>bN.o.trans (eA 0 0 bU (.cells v 28));go_wp2_with fail;refine yaj (HD.o _ (G.o _)) ?_;rintro e aM ⟨B,q,rfl,bK,d,aD,a9⟩;have HL:V _:=Ae aM B ys.length q ys bK d aD;have bZ:V _:=(G.o _).trans a9;clear bK d aD a9;go_wp2_with fail;refine yaj HL.o ?_;rintro e cd ⟨a5,_,bS⟩;obtain rfl:=a5 H.o;have b0:V _:=bZ.o.trans bS;clear a5 bS HL bZ G bN;go_wp2_with fail;go_ret;exact⟨rfl,b0.o.trans (eA 0 0 _ _)⟩
 obtain⟨a1,aX,K,bk,a3,ab,af,rfl,_,_⟩:=cj F;clear a5 cj F;have G:V _:=λv=>bN.o.trans (eA 0 0 bU (.cells v 28));go_wp2_with fail;refine yaj (HD.o _ (G.o _)) ?_;rintro e aM ⟨B,q,rfl,bK,d,aD,a9⟩;have HL:V _:=Ae aM B ys.length q ys bK d aD;have bZ:V _:=(G.o _).trans a9;have t:V _:=(e1.o.keep (eA 0 0 bU (im a1 (n1L ys) aX K (n2L ys) bk a3 (n3L ys) ab (pkL ys)))).keep a9;clear bK d aD a9;go_wp2_with fail;refine yaj HL.o ?_;rintro e cd ⟨_,cj,bS⟩;obtain⟨f,m,a2',l,j,u,us,rfl,cH,J⟩:=cj H.o;obtain⟨(b2:V _),(HSV:V _)⟩:=IB H.o cH;have bj:=eA 0 0 cd (im f (n1L ys) m a2' (n2L ys) l j (n3L ys) u (pkL ys));have f1:=f4 J.r1;have f2:=f4 J.r2;have f3:=f4 J.r3;have au:V _:=(J.keep bj).cs f1.symm f2.symm f3.symm;have e2:V _:=(t.o.keep bS).keep bj;have b0:V _:=(bZ.o.trans bS).trans bj;clear cj bS HL bZ G bN e1 t cH J f1 f2 f3 bj;go_wp2_with fail
 have ar:V (KB (cd.alloc (im f (n1L ys) m a2' (n2L ys) l j (n3L ys) u (pkL ys))) cd.heap.size (.slice f (n1L ys) m) (.slice a2' (n2L ys) l) (.slice j (n3L ys) u) (ih (pkL ys))):=by
  refine⟨?_,?_,?_,?_,?_,?_,?_,?_,?_⟩<;>simp
 generalize cd.alloc (im f (n1L ys) m a2' (n2L ys) l j (n3L ys) u (pkL ys))=bP at au e2 b0 ar⊢;refine yaj (xO bP f a2' j (n1L ys) m (n2L ys) l (n3L ys) u (pkL ys) _ _ _ au.o) ?_;rintro e ch ⟨rfl,b6⟩;rw[b2.o];have an:V _:=ar.o.keep b6;have aV:V _:=zW ch f a2' j (n1L ys) m (n2L ys) l (n3L ys) u (pkL ys) _ _ _ (au.o.keep b6);rw[HSV.o]at aV;have y:V _:=e2.o.keep b6;have ad:V _:=b0.o.trans b6;clear b6 ar au e2 b0;obtain⟨_,aU,ax,aF,bv,_,_,_,_⟩:=an.o;go_wp2_with fail;refine yaj aV.o ?_;rintro e aj ⟨g,s,r,rfl,b5,_,b7⟩;have HE:V _:=A9 aj s b ys.length r bT ys (b5.ys y.o.lt) (y.o.keep b7) (i4 U.o);have aI:V _:=ad.o.trans b7;clear b5 b7 aV aU ax aF bv;go_wp2_with fail;refine yaj HE.o ?_;rintro e bb ⟨rfl,ag⟩;have C:V _:=aI.o.trans ag;clear ag HE;go_wp2_with fail;go_ret;exact⟨rfl,C.o⟩
end
section
open Go.ChangeShapes Go.WideShapes Go.ChangeAt Go.RowKit Flt
theorem IC{ab enc w base j g a n cap}{d:DataW ab}{ps}
  (h:DataW.Trod enc prog w base j g 22 (.slice a n cap) d ps):cap<=9223372036854775807:=by
 obtain⟨t,br⟩:=h;rcases Deep.open_slice1 underlying22 uM br with⟨aL,_⟩|⟨x,l,c,m,v,Vaa,D,r,aL,_,_,ag,_⟩
 ·simp[Value.cells]at aL;omega
 simp[Value.cells]at aL;unfold maxLen at ag;omega
namespace PLoad
theorem lifted(ba)(f:ba.Started)(ab)(enc:TypeId×Value->ab):
  ReturnsInHanded {} Tryz.checked ba 3 .any (Rows.fnLoadSpec.pre6 enc prog Tryz.f3 Rows.fnLoadRow.domain false) (Rows.fnLoadSpec.post enc prog Tryz.f3 false true false false):=by
 refine returnsInHanded_of_change (C:=Tryz.checked) own f (by kernel_rfl) func3
  (ChangeSpec.witness6 (enc:=enc) (C:=Tryz.checked) false ⟨#[],#[.slice none 0 0],[]⟩ 8 (by kernel_rfl) (by kernel_rfl) (by kernel_rfl) (by kernel_rfl)) ?_
 intro W base args I b4 C l d G _;have k:∀(j:Nat) t v,Tryz.f3.params[j]? =some t->args[j]? =some v->Value.okWide prog W .any base t v:=l;have r:=d;obtain⟨p,q,b,ai,rfl,af,H⟩:=d;have bl:DataW.TrodAll enc prog W 0 (λ_=>true) true Tryz.f3.params.toList args.toList I p:=b;rw[Tryz.params3]at bl k;obtain⟨B,bT,rfl,rfl,aj⟩:=trodAll_one bl;obtain⟨rfl,rfl⟩:=trodVars_none ai;have w:∀x∈p,x.block<W.heap.size:=by obtain⟨m,aD⟩:=aj;exact DataW.trod_lt m _ _ _ aD
 obtain⟨a,y,bS,rfl⟩:=okWide_slice underlying22 (k 0 22 B rfl rfl);obtain⟨u,J,aN⟩:=Az aj;have bQ:=IC aj;clear b l;have z:Calls prog 3 #[.slice a y bS] W λe O=>e=.returned (.bool true)/\Below W.heap.size W O:=(Bn aN u bQ).mono λ_ _ h=>⟨h.1,h.2.below⟩
 refine z.mono λe F ⟨ay,g⟩=>?_;subst ay;exact⟨_,rfl,_,_,_,[],_,[],r,trodAll_mk1 (shut_bool underlying4 _),(trodAll_cons_mk (Below.trod EJ (by kernel_rfl) (of_decide_eq_true (by kernel_rfl)) aj g w) trodAll_mk0),rfl,g.frame _,λh=>by cases h⟩
end PLoad
end
end Go.Proofs.Z
namespace Go.Proofs.YtkjahdegnkmejaaGreat
open Z _root_.Go.Proofs.Tryz
theorem fnLoad_holds:Rows.FnLoadSaid:=
 OpenClaim.holds_of_wide 3 Tryz.f3 rfl rfl rfl rfl rfl rfl rfl ⟨rfl,rfl,rfl,rfl,rfl⟩ rfl rfl rfl rfl rfl (by kernel_rfl) func3 (by kernel_rfl)
  (of_decide_eq_true (by kernel_rfl)) (by unfold Func.isWrapper;first|(rw[iv (by decide+kernel)];kernel_rfl)|(rw[ip (by decide+kernel)];exact⟨rfl,rfl⟩))
  (λba f ab enc _=>PLoad.lifted ba f ab enc)
#print axioms fnLoad_holds
end Go.Proofs.YtkjahdegnkmejaaGreat
