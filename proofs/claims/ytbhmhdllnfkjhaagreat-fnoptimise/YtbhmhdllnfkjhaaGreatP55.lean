import Derived.Test.YtbhmhdllnfkjhaaGreatP47
import Derived.Test.YtbhmhdllnfkjhaaGreatP54
import Derived.Test.YtbhmhdllnfkjhaaGreatP48
namespace Go.Proofs.Z
open YtbhmhdllnfkjhaaGreat
open Tryz
set_option maxRecDepth 1000000
set_option maxHeartbeats 0
section
open Go.RowKit Flt
attribute[local go_sem] eG eE eD
variable{bs xs bT ins:List Int}{w b5:World}{b am a aB bc:Option Addr}{n m n1 cap d1 n3 T d2 d3:Nat}{vs us:List Vl}{M':List Vl×List Int}
variable{bs:List Int}
theorem PX{W}{st:LSt}{aN a2 bk R}(aS:w.heap.size<=R)(k:Kept 0 0 w W)(h:W.ownsRow R 3 1 aN st.ins.length (st.ins.map (Value.int .i64))/\W.ownsRow R 60 6 a2 st.vs.length (fK st.vs)/\W.ownsRow R 3 1 bk st.outs.length (st.outs.map (Value.int .i64))/\Apart aN a2/\Apart aN bk/\Apart a2 bk)(N:∀v∈st.vs,v.k<18446744073709551616):∃a1 c1 Y c2 a3 c3,aN=.slice a1 st.ins.length c1/\a2=.slice Y st.vs.length c2/\bk=.slice a3 st.outs.length c3/\DG W w.heap.size aN a2 bk st.ins st.vs st.outs:=by
 obtain⟨a1,c1,e1⟩:=jp h.1;obtain⟨Y,c2,e2⟩:=jp h.2.1;obtain⟨a3,c3,af⟩:=jp h.2.2.1;exact⟨_,_,_,_,_,_,e1,e2,af,je h.1 aS,je h.2.1 aS,je h.2.2.1 aS,h.2.2.2.1,h.2.2.2.2.1,h.2.2.2.2.2,N,k.size⟩
theorem Ja(hb:∀i,nv bs i<256){i bl t j r}
  (k:∀{w:World}{P n cap:Nat}{a:Option Addr},RdF w P a n cap (ni bs i) bs->Calls prog 36 #[hB P] w (SrO w P n cap a bs j t))
  (ef:∀{w:World}{a:Option Addr}{cap:Nat},TxA w a t.length t->t.length<=cap->Calls prog 35 #[.slice a t.length cap] w (PaZ w (w.heap.size+1) r))
  (bh:((nv bs i:Int)%4=0/\bl=rh bs (ni bs i))\/((nv bs i:Int)%4=1/\∃st,r=.ok st/\bl=(st.ins,st.vs.map sv,st.outs,j))\/((nv bs i:Int)%4=1/\∃p,r=.error (0,p)/\bl=([],[],[],j))\/((nv bs i:Int)%4=1/\∃c p,c≠0/\r=.error (c,p)/\V (bl=rsT bs j))\/((nv bs i:Int)%4≠0/\(nv bs i:Int)%4≠1/\V (bl=rsT bs (ni bs i))))
 {P} (C:RdF w P a n cap i bs):Calls prog 15 #[hB P] w (DgT w P a n cap bs bl):=by
  have hP:=C.lt;have bx:=ez 0 0 w fj;have bu:V _:=jh _ P a n _ i _ (C.keep0 bx);have aZ:V _:=bx;clear C bx;go_enter func15,ntmps15;go_upto_region 2 with (go_at_call 33;refine yaj bu.o ?_;rintro e az ⟨rfl,(aK:V _),aj,-⟩;have bY:V _:=(fh aZ.o).trans aj;have aS:V (RB _ _ iS iS iS):=(fF w).kept aj xaa;clear aj);clear bu aZ;rcases bh with⟨c4,ar⟩|⟨c4,st,av,rfl⟩|⟨c4,p,av,rfl⟩|⟨c4,c,p,ad,av,HE⟩|⟨c0,c1,HE⟩
  ·have aa:V (Calls prog 34 #[hB P] az (DgT az P a n cap bs bl)):=by rw[ar];exact Qi aK.o
   clear ar;go_wp2_with (go_at_call 34;refine yaj aa.o ?_;rintro e ab ⟨a1,c1,Y,c2,a3,c3,vs,rfl,ae,d,an,aF⟩;obtain⟨hb,(aI:V _)⟩:=DgF.up aS.o hP bY.o ae d an aF;obtain⟨_,bm,ay,aW,bv,bA,bM⟩:=hb;clear ae d an aF);obtain⟨a8,aV,p2⟩:=eZ _ _ _ _ _ bm ay aW (.slice a1 bl.1.length c1) (.slice Y vs.length c2) (.slice a3 bl.2.2.1.length c3);exact yaz (v:=eV a1 bl.1.length c1 Y vs.length c2 a3 bl.2.2.1.length c3) (by simp[results,results15,go_sem,a8,aV,p2]) rfl aI.o
  ·subst av;have f:V _:=k aK.o;go_upto_region 6 with (first
   |(go_at_call 36;refine yaj f.o ?_;rintro e ab ⟨g,bK,rfl,Q,bX,(H:V _),aF⟩;have cC:V _:=ef (BB bX) Q;have bR:V _:=bY.o.trans aF;have b7:V _:=aS.o.kept aF xaa;clear Q bX aF)
   |(go_at_call 35;refine yaj cC.o ?_;rintro e bj ⟨aN,a2,bk,rfl,ch,bO,a5,l,q,s,X,ca⟩;obtain⟨a1,c1,Y,c2,a3,c3,e1,e2,af,d⟩:=PX (Nat.le_succ _) ca ⟨ch,bO,a5,l,q,s⟩ X.k;subst e1 e2 af;have HD:V _:=d;have b0:V _:=ca;clear ch bO a5 l q s X ca d))
   have bS:=b0.o.trans (ez 0 0 _ (.cells #[.slice a1 st.ins.length c1,.slice Y st.vs.length c2,.slice a3 st.outs.length c3] 26));obtain⟨hb,(aI:V _)⟩:=DgF.up b7.o hP bR.o rfl (HD.o.keep (ez 0 0 _ _)) (H.o.keep0 bS) (fh bS);obtain⟨_,bm,ay,aW,bv,bA,bM⟩:=hb;clear bS;go_wp2_with fail;obtain⟨a8,aV,p2⟩:=eZ _ _ _ _ _ bm ay aW (.slice a1 st.ins.length c1) (.slice Y st.vs.length c2) (.slice a3 st.outs.length c3);exact yaz (v:=eV a1 st.ins.length c1 Y st.vs.length c2 a3 st.outs.length c3) (by simp[results,results15,go_sem,a8,aV,p2]) rfl aI.o
  ·subst av;have f:V _:=k aK.o;go_upto_region 6 with (first
   |(go_at_call 36;refine yaj f.o ?_;rintro e ab ⟨g,bK,rfl,Q,bX,(H:V _),aF⟩;have cC:V _:=ef (BB bX) Q;have bR:V _:=bY.o.trans aF;have b7:V _:=aS.o.kept aF xaa;clear Q bX aF)
   |(go_at_call 35;refine yaj cC.o ?_;rintro e bj ⟨rfl,(b0:V _)⟩))
   have cc:=ez 0 0 bj fj;have bS:=b0.o.trans cc;have d:DG _ _ iS iS iS [] [] []:=⟨yaw _ _ _ _,yaw _ _ _ _,yaw _ _ _ _,(λ_ h=>by cases h),(λ_ h=>by cases h),(λ_ h=>by cases h),(λ_ h=>by cases h),b0.o.size⟩
   obtain⟨hb,(aI:V _)⟩:=DgF.up (ins:=[]) (vs:=[]) (outs:=[]) (S:=[]) b7.o hP bR.o rfl (d.keep cc) (H.o.keep0 bS) (fh bS);obtain⟨_,bm,ay,aW,bv,bA,bM⟩:=hb;clear bS cc d;go_wp2_with fail;obtain⟨a8,aV,p2⟩:=eZ _ _ _ _ _ bm ay aW iS iS iS;exact yaz (v:=eV none 0 0 none 0 0 none 0 0) (by simp[results,results15,go_sem,a8,aV,p2]) rfl aI.o
  ·subst av;have f:V _:=k aK.o;go_upto_region 6 with (first
   |(go_at_call 36;refine yaj f.o ?_;rintro e ab ⟨g,bK,rfl,Q,bX,(H:V _),aF⟩;have cC:V _:=ef (BB bX) Q;have bR:V _:=bY.o.trans aF;have b7:V _:=aS.o.kept aF xaa;clear Q bX aF)
   |(go_at_call 35;refine yaj cC.o ?_;rintro e bj ⟨rfl,(b0:V _)⟩))
   have bS:=b0.o.trans (ez 0 0 _ fj);go_upto_if 37 with fail
   refine wp_cond_false (congrArg _ (yan ad)) (wp_skip ?_);exact(‹∀(a:Act) (w:World),Code.wp _ _ _ a w->_›) _ _ (I9 hb (H.o.keep0 bS) (bR.o.trans (fh bS)) (b7.o.keep bS) hP HE.o)
  go_upto_if 28 with fail
  refine wp_cond_false (congrArg _ (yan c1)) (wp_skip ?_);exact(‹∀(a:Act) (w:World),Code.wp _ _ _ a w->_›) _ _ (I9 hb aK.o bY.o aS.o hP HE.o)
variable{bs:List Int}
theorem dgD(hb:∀i,nv bs i<256)(i):∃bl,∀{w:World}{P n cap:Nat}{a:Option Addr},RdF w P a n cap i bs->Calls prog 15 #[hB P] w (DgT w P a n cap bs bl):=by
 obtain⟨t,j,a0,ar⟩:=Qg hb (ni bs i);obtain⟨r,aK⟩:=psD t a0;by_cases c0:nv bs i%4=0
 ·exact⟨_,λC=>Ja hb ar aK (.inl ⟨by omega,rfl⟩) C⟩
 by_cases c1:nv bs i%4=1
 ·have af:(nv bs i:Int)%4=1:=xaa;rcases r with⟨c,p⟩|st
  ·by_cases ae:c=0
   ·subst ae;exact⟨_,λC=>Ja hb ar aK (.inr (.inr (.inl ⟨af,p,rfl,rfl⟩))) C⟩
   exact⟨_,λC=>Ja hb ar aK (.inr (.inr (.inr (.inl ⟨af,c,p,ae,rfl,rfl⟩)))) C⟩
  exact⟨_,λC=>Ja hb ar aK (.inr (.inl ⟨af,_,rfl,rfl⟩)) C⟩
 exact⟨_,λC=>Ja hb ar aK (.inr (.inr (.inr (.inr ⟨by omega,by omega,rfl⟩)))) C⟩
theorem BF{W W' l h}(k:Kept 0 0 w W)(p:Kept l h W W')(ab:w.heap.size<=l):Kept 0 0 w W':=
 ⟨p.os.trans k.os,p.tape.trans k.tape,p.output.trans k.output,yao k.size p.size,λb hb _=>by rw[p.block b (hM k.size) xaa];exact k.block b hb xaa⟩
variable{bs:List Int}
def DoD(w:World)(T:List Int×List Vl×List Int×Nat)(ps:List Int)(e:Ending)(w':World):Prop:=
 ∃a1 c1 a2 c2 a3 c3 vs aE cE,e=.returned (.tuple #[eV a1 T.1.length c1 a2 vs.length c2 a3 T.2.2.1.length c3,.slice aE ps.length cE])/\vs.map sv=T.2.1/\DG w' w.heap.size (.slice a1 T.1.length c1) (.slice a2 vs.length c2) (.slice a3 T.2.2.1.length c3) T.1 vs T.2.2.1/\IS w' 0 w'.heap.size aE ps.length ps/\Kept 0 0 w w'
theorem Jb(hb:∀i,nv (xs.take 500) i<256):∃bl,∀{w:World}{a:Option Addr}{n cap:Nat},YS w a n xs->n<=cap->Calls prog 4 #[.slice a n cap] w (DoD w bl (dpM (xs.take 500) 0)):=by
 obtain⟨bl,bh⟩:=dgD hb (niN (xs.take 500) (ni (xs.take 500) 0) (nv (xs.take 500) 0%6));refine⟨bl,λ{w a n cap} h ad=>?_⟩;have bx:=ez 0 0 w fj;have B:(w.alloc fj).heap.size=w.heap.size+1:=by simp
 have HO:V _:=M0 _ a n _ _ (h.keep bx) ad;have b1:V _:=@bh;have j:V _:=fF w;have aZ:V _:=bx;clear bh hb;generalize xs.take _=bs at HO b1⊢;rw[B]at HO;clear h ad bx B;go_enter func4,ntmps4;go_wp2_with fail;refine yaj HO.o ?_;rintro e az ⟨rfl,⟨m,(aK:V _)⟩,aj⟩;have bY:V _:=aZ.o.trans aj;have aS:V _:=j.o.keep aj;clear aj aZ j HO;go_wp2_with fail;refine yaj (Lc aK.o) ?_;rintro e W2 ⟨aE,cE,aT,rfl,rfl,c⟩;have R2:=c.rd;have ah:=c.kp;have f:V _:=J8 c.own rfl;have bz:V _:=R2;have bD:V _:=BF bY.o ah xaa;have y:V (RB _ _ iS iS iS):=aS.o.kept ah xaa;have b7:V (w.heap.size+1<az.heap.size/\az.heap.size<=W2.heap.size):=⟨aK.o.lt,ah.size⟩
 clear R2 ah bY aS aK c;go_wp2_with fail;refine yaj (b1.o bz.o) ?_;rintro e ab ⟨a1,c1,Y,c2,a3,c3,vs,rfl,ae,d,an,aF⟩;have hP:=bz.o.lt;obtain⟨_,bd,aL,aJ,bG,f1,f2⟩:=y.o.kept aF xaa;obtain⟨a8,aV,p2⟩:=eZ _ _ _ _ _ bd aL aJ (.slice a1 bl.1.length c1) (.slice Y vs.length c2) (.slice a3 bl.2.2.1.length c3);have ai:=fg ab w.heap.size (.slice a1 bl.1.length c1) (.slice Y vs.length c2) (.slice a3 bl.2.2.1.length c3);have bi:=b7.o;have U:V (DoD w bl _ _ _):=⟨_,_,_,_,_,_,_,_,cE,rfl,ae,(d.kept ai xaa).mono xaa,(((f.o.keep aF xaa).keep ai xaa).mono yae (hN aF.size ai.size)),BF (BF bD.o aF xaa) ai yad⟩
 clear ae d an aF ai hP bz bD y b1 f b7 bi;go_wp2_with fail;exact yaz (v:=.tuple #[eV a1 bl.1.length c1 Y vs.length c2 a3 bl.2.2.1.length c3,.slice aE (dpM bs 0).length cE]) (by simp[results,results4,go_sem,a8,aV,p2]) rfl U.o
theorem nvb(h:∀x∈bs,0<=x/\x<256)(i):nv bs i<256:=by
 unfold nv;by_cases c:i<bs.length
 ·have:=h _ (List.getElem_mem c);simp only[yai,yam c,Option.getD_some];first|omega|(split<;>omega)
 simp only[yai,List.getElem?_eq_none (Nat.le_of_not_lt c),Option.getD_none];first|omega|(split<;>omega)
theorem Mq{W u1 u2 u3}(k:Kept 0 0 (w.alloc (.cells #[u1,u2,u3] 26)) W):G0 W w.heap.size u1 u2 u3:=(ft w u1 u2 u3).keep k
theorem Mr(h:us.map sv=vs.map sv):Lk us vs:=by
 have e:sv=cv:=funext λv=>by unfold sv cv;rw[Bt]
 unfold Lk;rw[<-e];exact h
def InO(w:World)(ys ins:List Int)(e:Ending)(w':World):Prop:=
 ∃ia ic xss,e=.returned (.slice ia ins.length ic)/\(SS w' ia ins.length xss/\iT xss/\inB ins xss=true/\∀j,fO (xss.getD j []) ((inN ys ins).getD j []))/\Kept 0 0 w w'
theorem LN{lo X bd af cm}(f:IS w lo X a ins.length ins)(bX:YS w b af bT)(aq:af<=1048576)(hn:ins.length<=20)(ab:ins.all lenB=true):
  Calls prog 7 #[.slice a ins.length bd,.slice b af cm,.bool true] w (InO w bT ins):=by
 have aD:∀j,j<ins.length->_:=λj hj=>of_decide_eq_true (List.all_eq_true.1 ab (ins.getD j 0) (by rw[yai,yam hj];exact List.getElem_mem _));refine(Lv f bX aq xaa aD).mono ?_;rintro e I ⟨cM,br,xss,B,J,h3,a0⟩;refine⟨_,_,_,B,⟨J,J.words,?_,λj=>?_⟩,a0⟩
 ·unfold inB;rw[J.len,decide_eq_true rfl,Bool.true_and,List.all_eq_true];intro j hj;have hj:=List.mem_range.1 hj;rw[iZ (h3 j hj),CF _ hj,Al,List.length_map,List.length_range];have:=aD j hj;simp only[beq_iff_eq];omega
 by_cases c:j<ins.length
 ·exact h3 j c
 rw[yai,List.getElem?_eq_none (hR J.len),yai,List.getElem?_eq_none (by simp[inN];omega)];rfl
def WnO(ys ins:List Int)(vs:List Vl)(outs:List Int)(wss:List (List Nat)):Prop:=
 ∃xss,(iT xss/\inB ins xss=true/\∀j,fO (xss.getD j []) ((inN ys ins).getD j []))/\∀j,j<outs.length->fO (wss.getD j []) ((eX xss vs vs.length).getD (outs.getD j 0).toNat [])
theorem Au{us vs outs}(X)(h:Lk us vs)(aj:Kb us)(ah:Kb vs):∀k,Lk (gM us outs X k).1 (gM vs outs X k).1/\(gM us outs X k).2=(gM vs outs X k).2
 |0=>⟨h,rfl⟩
 |k+1=>by
  have aa:=Au (outs:=outs) X h aj ah k
  have q:=uh (outs:=(gM us outs X k).2) (X.getD k 0) aa.1 (ms _ aj k) (ms _ ah k)
  rw[gM,gM,<-aa.2]
  exact q
theorem CK{ins xss vs outs}(X)(h:okG ins vs outs=true)(ak:iT xss)(hi:inB ins xss=true)(N:Kb vs):∀m,(gM vs outs X m).2.length=outs.length/\(gM vs outs X m).1.length<=vs.length/\∀k,k<outs.length->fO ((eX xss (gM vs outs X m).1 (gM vs outs X m).1.length).getD ((gM vs outs X m).2.getD k 0).toNat []) ((eX xss vs vs.length).getD (outs.getD k 0).toNat [])
 |0=>⟨rfl,yad,λ_ _=>rfl⟩
 |m+1=>by
  have aa:=CK X h ak hi N m
  have l:=GI (X.getD m 0) (mr X h m)
  exact⟨l.2.trans aa.1,yao l.1 aa.2.1,λk av=>gJ (GJ _ (mr _ h m) ak hi (ms _ N m) (hO aa.1 av)) (aa.2.2 k av)⟩
theorem Jc{outs X aA aK}(h:okG ins vs outs=true)(aH:Lk us (gM vs outs X m).1)(g:Kb us)(b4:Kb vs)(ab:(gM vs outs X m).2.length=outs.length)(bv:WnO bT ins us (gM vs outs X m).2 aA)(bf:WnO bT ins vs outs aK){k}(N:k<outs.length):
  fO (aA.getD k []) (aK.getD k [])/\(aA.getD k []).length<=1000000:=by
 obtain⟨x,⟨cl,av,i⟩,cf⟩:=bv;obtain⟨y,⟨p,f,aW⟩,c⟩:=bf;obtain⟨_,_,h3,a0,_⟩:=fW h;obtain⟨_,_,z,l,_⟩:=fW (mr X h m);have ch:=l ((gM vs outs X m).2.getD k 0) (by rw[yai,yam xaa];exact List.getElem_mem _);have bO:=a0 (outs.getD k 0) (by rw[yai,yam N];exact List.getElem_mem _)
 have e1:fO ((eX x us us.length).getD ((gM vs outs X m).2.getD k 0).toNat []) ((eX x (gM vs outs X m).1 (gM vs outs X m).1.length).getD ((gM vs outs X m).2.getD k 0).toNat []):=by
  rw[aH.len];exact rP aH (λ_=>rfl) cl cl g (ms _ b4 m) _ z _ xaa
 have af:fO ((eX x _ _).getD (outs.getD k 0).toNat _) _:=rP (Lk.refl _) (λj=>gJ (i j) (rE (aW j))) cl p b4 b4 _ h3 _ xaa;have e:=gJ (cf k xaa) (gJ e1 (gJ ((CK _ h cl av b4 m).2.2 k N) (gJ af (rE (c k N)))));refine⟨e,?_⟩;have b1:=m4 f _ (rO h3) (outs.getD k 0).toNat xaa;have ce:=ir (h3 (outs.getD k 0).toNat xaa);rw[iZ e,iZ (c k N)];omega
theorem PRk.lk{M e I}(h:PRk w n1 n3 ins M e I)(q:Lk M.1 M'.1/\M.2=M'.2):PRk w n1 n3 ins M' e I:=by
 obtain⟨am,d1,aB,T,d2,bc,d3,us,B,J,h3,a0,bz,bP,aS⟩:=h;exact⟨_,_,_,_,_,_,_,_,B,J,h3,hQ q.2 a0,bz,bP.trans q.1,aS⟩
theorem Jd(w u v)(e:cv u=cv v)(aH:u.k<18446744073709551616)(aD:v.k<18446744073709551616):Calls prog 28 #[u.agg,v.agg] w λe I=>e=.returned (.bool true)/\Kept 0 0 w I:=by
 obtain⟨o,l,a,b,c,k⟩:=u;unfold cv at e;injection e with e1 e2 af e4 bo G;simp only at e1 e2 af e4 bo G aH;subst e1 e2 af e4 bo
 have aI:V _:=λW=>by
  have:=IU k v.k W aH aD
  rw[G,beq_self_eq_true]at this
  exact this
 clear aD aH G;rcases Decidable.em (v.op=1) with B|B
 all_goals
  go_enter func28,ntmps28
  go_wp2_with (go_at_call 61;refine yaj (aI.o _) ?_;rintro e W2 ⟨rfl,rfl⟩)
  go_ret
  exact⟨rfl,(ez 0 0 w _).trans (ez 0 0 _ _)⟩
theorem BG(w a1 Y a3 O ax Z n1 c1 T c2 n3 c3 d1 d2 d3 ins us vs outs)(ab:Lk us vs)(f:GS w a1 n1 Y T a3 n3 ins us outs)(g:GS w O n1 ax T Z n3 ins vs outs)(B:n1<=1000000)(J:T<=2000)(h3:n3<=1000000):
  Calls prog 10 #[eV a1 n1 c1 Y T c2 a3 n3 c3,eV O n1 d1 ax T d2 Z n3 d3] w λe I=>e=.returned (.bool true)/\Kept 0 0 w I:=by
 have an:=ez 0 0 w (eW a1 n1 c1 Y T c2 a3 n3 c3);have aj:=ez 0 0 (w.alloc (eW a1 n1 c1 Y T c2 a3 n3 c3)) (eW O n1 d1 ax T d2 Z n3 d3);have aS:=ft (w.alloc (eW a1 n1 c1 Y T c2 a3 n3 c3)) (.slice O n1 d1) (.slice ax T d2) (.slice Z n3 d3);rw[show(w.alloc _).heap.size=w.heap.size+1 by simp]at aS;have aa:V _:=(ft w _ _ _).keep aj;have aA:V _:=aS;have HK:V _:=an.trans aj;have aI:V _:=f.keep (an.trans aj);have aX:V _:=g.keep (an.trans aj);have HL:V (Lk _ _/\Kb _/\Kb _):=⟨ab,f.v.lt,g.v.lt⟩
 clear f g an aj aS ab;obtain⟨_,a8,aV,p2⟩:=aa.o;obtain⟨_,bd,aL,aJ⟩:=aA.o;go_enter func10,ntmps10;go_wp2_with fail;generalize (w.alloc _).alloc _=aO at aa aA HK aI aX a8 aV p2 bd aL aJ⊢;refine yaj (wi _ _ _ _ _ _ _ aI.o.i aX.o.i B) ?_;rintro e ag ⟨rfl,(bD:V _)⟩;clear a8 aV p2 bd aL aJ;obtain⟨_,a8,aV,p2⟩:=aa.o.keep bD.o;obtain⟨_,bd,aL,aJ⟩:=aA.o.keep bD.o;go_wp2_with fail;refine yaj (wi _ _ _ _ _ _ _ (aI.o.keep bD.o).o (aX.o.keep bD.o).o h3) ?_;rintro e a7 ⟨rfl,aF⟩;clear a8 aV p2 bd aL aJ;obtain⟨_,a8,aV,p2⟩:=aa.o.keep (bD.o.trans aF);obtain⟨_,bd,aL,aJ⟩:=aA.o.keep (bD.o.trans aF);have bR:V _:=bD.o.trans aF;clear aF bD;go_wp2_with fail;clear a8 aV p2 bd aL aJ;go_loopw [5] (λi W=>∃k:Nat,k<=T/\i=hD k/\V (Kept 0 0 aO W)) (λi _=>T-(intOf i).toNat)
 case atStart=>exact⟨0,yae,rfl,bR⟩
 case round=>
  obtain⟨k,N,rfl,aw⟩:=hrel;obtain⟨_,a8,aV,p2⟩:=aa.o.keep aw.o;obtain⟨_,bd,aL,aJ⟩:=aA.o.keep aw.o;by_cases aC:k<T
  ·obtain⟨bw,bh,rfl,l,_,_,be⟩:=(aI.o.keep aw.o).v.at_idx aC;obtain⟨aY,aP,rfl,X,_,_,c⟩:=(aX.o.keep aw.o).v.at_idx aC;have au:V _:=Jd wr.drew _ _ (HL.o.1.at_ k) (HL.o.2.1.at_ k) (HL.o.2.2.at_ k);generalize us.getD k _=u at be au;generalize vs.getD k _=v at c au;obtain⟨bI,bB,bE,b6,ct,bo⟩:=be;obtain⟨bb,aM,aQ,bY,cg,cn⟩:=c;go_wp2_with fail;go_region_with (go_at_call 28;refine yaj au.o ?_;rintro e br ⟨rfl,bS⟩)
   all_goals
    go_wp2
    go_roundw;exact⟨k+1,by omega,by go_num,(Kept.drew aw.o).trans bS⟩;simp[intOf];omega
  obtain rfl:k=T:=xaa;go_wp2;go_ret;exact⟨rfl,HK.o.trans aw.o⟩
theorem LO(i):(dpM bs i).length<=50:=by
 unfold dpM dpX;rw[yal,ye];by_cases ae:nv bs i=250
 ·rw[hG ae];simp;omega
 by_cases B:nv bs i=251
 ·rw[hF ae,hG B];simp;omega
 by_cases J:nv bs i=252
 ·rw[hF ae,hF B,hG J,J];simp
 rw[hF ae,hF B,hF J];simp;omega
structure StL(w W:World)(S:Nat)(B1 B2 B3:Option Addr)(n1 d1 n2 d2 n3 d3:Nat)(ins:List Int)(us:List Vl)(M:List Vl×List Int):Prop where
 bx:RB W S (.slice B1 n1 d1) (.slice B2 n2 d2) (.slice B3 n3 d3)
 i:LsI W B1 n1 d1 ins
 v:LsV W B2 n2 d2 us
 o:LsI W B3 n3 d3 M.2
 lk:Lk us M.1
 kb:Kb us
 lo:w.heap.size<=S
 ke:Kept 0 0 w W
theorem StL.next{W ag S C1 v J e1 b2 e2 af M}(h:StL w W S am aB bc n1 d1 T d2 n3 d3 ins us M)(k:Kept 0 0 W ag)(hi:LsI ag C1 n1 e1 ins)(aD:LsV ag v b2 e2 vs)(al:LsI ag J n3 af M'.2)(l:(∀g,v=some ⟨g,0,none⟩->W.heap.size<=g)/\(∀g,C1=some ⟨g,0,none⟩->W.heap.size<=g)/\∀g,J=some ⟨g,0,none⟩->W.heap.size<=g)(p:Lk vs M'.1)(bZ:Kb vs):
  StL w (Cc ag S (.slice C1 n1 e1) (.slice v b2 e2) (.slice J n3 af)) S C1 v J n1 e1 b2 e2 n3 af ins vs M':=by
 obtain⟨ce,b1,a9⟩:=l;have K:=fg ag S (.slice C1 n1 e1) (.slice v b2 e2) (.slice J n3 af);have aZ:=h.bx.sz;have au:∀{b:Option _}{n c:Nat}{xs:List _},LsI _ b n c xs->(∀g,b=some _->W.heap.size<=g)->LsI (Cc _ S _ _ _) b n c _:=λh l=>⟨h.1,h.2.imp id λ⟨g,e,f⟩=>⟨g,e,f.keep K (hM (l g e))⟩⟩
 exact⟨nK (h.bx.keep k) _ _ _,au hi b1,⟨aD.1,aD.2.imp id λ⟨g,e,f⟩=>⟨g,e,f.keep K (hM (ce g e))⟩⟩,au al a9,p,bZ,h.lo,(h.ke.trans k).new K h.lo⟩
structure CuR(w W:World)(P:Nat)(B1 B2 B3:Option Addr)(n1 d1 n2 d2 n3 d3:Nat)(ins:List Int)(us:List Vl)(M:List Vl×List Int):Prop where
 bx:G0 W P (.slice B1 n1 d1) (.slice B2 n2 d2) (.slice B3 n3 d3)
 i:LsI W B1 n1 d1 ins
 v:LsV W B2 n2 d2 us
 o:LsI W B3 n3 d3 M.2
 l:(∀g,B2=some ⟨g,0,none⟩->w.heap.size<=g)/\(∀g,B1=some ⟨g,0,none⟩->w.heap.size<=g)/\∀g,B3=some ⟨g,0,none⟩->w.heap.size<=g
 lk:Lk us M.1
 kb:Kb us
 ke:Kept 0 0 w W
theorem CuR.late{W M}(k:Kept 0 0 w W)(i:LsI b5 am n1 d1 ins)(v:LsV b5 aB T d2 us)(o:LsI b5 bc n3 d3 M.2)(l:(∀g,aB=some ⟨g,0,none⟩->W.heap.size<=g)/\(∀g,am=some ⟨g,0,none⟩->W.heap.size<=g)/\∀g,bc=some ⟨g,0,none⟩->W.heap.size<=g)(p:Lk us M.1)(bZ:Kb us)(a0:Kept 0 0 W b5):CuR w (b5.alloc (eW am n1 d1 aB T d2 bc n3 d3)) b5.heap.size am aB bc n1 d1 T d2 n3 d3 ins us M:=
 have bx:=ez 0 0 b5 (eW am n1 d1 aB T d2 bc n3 d3)
 have ar:=k.size
 ⟨ft b5 _ _ _,i.keep bx,v.keep bx,o.keep bx,⟨λg e=>yao ar (l.1 g e),λg e=>yao ar (l.2.1 g e),λg e=>yao ar (l.2.2 g e)⟩,p,bZ,k.trans (a0.trans bx)⟩
theorem CuR.early{W M}(k:Kept 0 0 w W)(i:LsI b5 am n1 d1 ins)(v:LsV b5 aB T d2 us)(o:LsI b5 bc n3 d3 M.2)(l:(∀g,aB=some ⟨g,0,none⟩->(W.alloc fj).heap.size<=g)/\(∀g,am=some ⟨g,0,none⟩->(W.alloc fj).heap.size<=g)/\∀g,bc=some ⟨g,0,none⟩->(W.alloc fj).heap.size<=g)(p:Lk us M.1)(bZ:Kb us)(a0:Kept 0 0 (W.alloc fj) b5):CuR w (fw b5 W.heap.size (.slice am n1 d1) (.slice aB T d2) (.slice bc n3 d3)) W.heap.size am aB bc n1 d1 T d2 n3 d3 ins us M:=by
 obtain⟨ce,b1,a9⟩:=l;have bi:(W.alloc fj).heap.size=W.heap.size+1:=by simp
 rw[bi]at b1 ce a9;have ar:=k.size;have K:=fg b5 W.heap.size (.slice am n1 d1) (.slice aB T d2) (.slice bc n3 d3);have r:=(fF W).keep a0;have au:∀{b:Option _}{n c:Nat}{xs:List _},LsI _ b n c _->(∀g,b=some _->W.heap.size+1<=g)->LsI (fw b5 _ _ _ _) b n c xs:=λh l=>⟨h.1,h.2.imp id λ⟨g,e,f⟩=>⟨g,e,f.keep K (hM (l g e))⟩⟩
 obtain⟨bC,aN,a2⟩:=eZ _ _ _ _ _ r.q0 r.q1 r.q2 (.slice am n1 d1) (.slice aB T d2) (.slice bc n3 d3);exact⟨⟨yak r.sz K.size,bC,aN,a2⟩,au i b1,⟨v.1,v.2.imp id λ⟨g,e,f⟩=>⟨g,e,f.keep K (hM (ce g e))⟩⟩,au o a9,⟨λg e=>hM (ce g e),λg e=>hM (b1 g e),λg e=>hM (a9 g e)⟩,p,bZ,(k.trans ((ez 0 0 W _).trans a0)).new K ar⟩
theorem LP{cm}(h:YS w a n xs)(ad:n<=cap)(bX:YS w b m bT):
  Calls prog 3 #[.slice a n cap,.slice b m cm] w λe I=>e=.returned (.bool true)/\Kept 0 0 w I:=by
 by_cases hn:1048576<n
 ·have bI:1048576<(n:Int):=xaa;clear hn;exact xit
 have bI:¬1048576<(n:Int):=xaa;by_cases aq:1048576<m
 ·have bv:1048576<(m:Int):=xaa;clear aq;exact xit
 have bv:¬1048576<(m:Int):=xaa;obtain⟨bl,bh⟩:=Jb (nvb λx ak=>h.lt x (List.mem_of_mem_take ak));have b1:V (∀W,Kept 0 0 w W->_):=λW k=>bh (h.keep k) ad;have bO:V _:=bX;have aa:V (m<=1048576):=by show _<=_;omega
 have bP:=LO (bs:=xs.take 500) 0;clear bh h hn aq bX;obtain⟨ins,S,outs,b3⟩:=bl;generalize dpM _ 0=X at b1 bP;go_enter func3,ntmps3;go_wp2_with fail;refine yaj (b1.o w hL) ?_;rintro e az ⟨a1,c1,Y,c2,a3,c3,vs,aE,cE,rfl,ae,d,ef,aj⟩;have aU:V (vs.map _=S):=ae;simp only at d;have bB:=ez 0 0 az (eW a1 ins.length c1 Y vs.length c2 a3 outs.length c3);have aR:V _:=GS.keep ⟨(wk d.r1 rfl).is,(IX d.r2 rfl).vs d.k,(wk d.r3 rfl).is⟩ bB;have cw:V (Kb _):=d.k;have av:V _:=IS.keep ef bB yaa;have bL:V _:=I8 _ _ _ _ _ c1 _ c2 _ c3 _ _ cE _ _ _ aR.o _ _ _ av.o bP;have bY:V _:=aj.trans bB;have aX:V (∀W,Kept 0 0 (az.alloc (eW a1 ins.length c1 Y vs.length c2 a3 outs.length c3)) W->_):=λW k=>Mq k;obtain⟨_,aT,ao,aG⟩:=aX.o _ hL;clear ae d aj bB ef;go_wp2_with fail;clear aT ao aG;generalize az.heap.size=Q at aX av⊢;generalize az.alloc _=W2 at bL bY aX aR av⊢;refine yaj bL.o ?_;clear bL;rintro e W0 ⟨cO,m1,e1,cQ,b2,e2,cR,m3,af,c,rfl,aZ,an⟩;have cN:=ez 0 0 W0 (eW cO m1 e1 cQ b2 e2 cR m3 af);have aF:=an.trans cN;have bR:V _:=bY.o.trans aF;clear an cN;by_cases cb:c=0
 case neg=>
  clear aZ aF aX aU b1 aR cw bO aa av bY;go_wp2;go_ret;exact⟨rfl,bR.o⟩
 subst cb;obtain⟨(cd:V _),(aw:V _)⟩:=aZ.1 rfl;have b4:V _:=λk N=>of_decide_eq_true (List.all_eq_true.1 aw.o _ (gY (q:=k) N));have cu:V _:=λW k=>aX.o W (aF.trans k);have bp:V (∀W,Kept 0 0 _ W->_):=λW k=>aR.o.keep (aF.trans k);have bE:V (∀W,Kept 0 0 _ W->_):=λW k=>av.o.keep (aF.trans k) yaa;obtain⟨⟨ck,cz,cA⟩,cD,_⟩:=fW cd.o;have b6:V (ins.length<=20/\vs.length<=2000/\outs.length<=50):=⟨ck,cz,cA⟩
 have s:V (∀W,Kept 0 0 _ W->Calls _ 7 #[.slice _ _ c1,.slice b m cm,.bool _] W _):=λW k=>LN (bp.o W k).i (bO.o.keep (bR.o.trans k)) aa.o ck cD;clear aF aX aR bY ck cz cA cD bO aa av aZ;obtain⟨_,bf,aP,aY⟩:=cu.o _ hL;go_wp2_with fail;generalize W0.alloc _=ab at bR cu bp bE s bf aP aY⊢;go_cut [9,10] (λx y cl=>∃bC wc aK,x=.slice bC outs.length wc/\y=hD 0/\V (SS cl bC outs.length aK/\WnO bT ins vs outs aK)/\V (Kept 0 0 ab cl))
 case first=>
  go_region_with (first
   |(go_at_call 7;refine yaj (s.o _ (eF _)) ?_;rintro e bj ⟨cM,br,xss,rfl,a5,ca⟩;have g:=(eF _).trans ca;have bn:V _:=a5.2;obtain⟨_,bm,ay,aW⟩:=cu.o _ g;have HE:V _:=Ak _ _ _ _ _ _ c1 _ c2 _ c3 _ br _ _ _ _ (bp.o _ g) a5.1 a5.2.1 cd.o a5.2.2.1;have b0:V _:=g;clear a5 ca g)
   |(go_at_call 6;refine yaj HE.o ?_;rintro e ci ⟨bC,wc,aK,rfl,z,cJ,bS⟩;have be:V (SS ci _ _ _/\WnO bT _ _ _ _):=⟨z,_,bn.o,cJ⟩;have cC:V _:=b0.o.trans bS;clear z cJ bS))
  all_goals
   go_wp2_with fail
   go_meet
   exact⟨_,_,_,rfl,rfl,be,cC⟩
 case rest=>
  obtain⟨bC,cT,aK,rfl,rfl,be,R⟩:=hcut;obtain⟨ci,bQ⟩:∃ci,ci=wc:=⟨_,rfl⟩
  subst bQ;clear bf aP aY;have cC:V _:=bR.o.trans R.o;go_wp2_with fail;refine yaj (b1.o _ cC.o) ?_;rintro e a7 ⟨O,f1,ax,f2,Z,f3,au,cW,dp,rfl,ae,d,cF,cc⟩;simp only at ae d;have z:=Mr (ae.trans aU.o.symm);have bx:=ez 0 0 a7 (eW O ins.length f1 ax au.length f2 Z outs.length f3);have cK:okG ins au outs=true:=hO z.okG cd.o
  have bG:V _:=(PJ _ _ _ _ _ _ _ _ _ _ _ _ _ _ dp _ _ _ _ ((wk d.r1 rfl).keep bx) ((IX d.r2 rfl).keep bx) ((wk d.r3 rfl).keep bx) d.k cK (cF.keep bx yaa) bP aw.o).mono λ_ _ h=>h.lk (Au _ z d.k cw.o _);have bo:V _:=cc.trans bx;obtain⟨_,cy,bA,ap⟩:=ft a7 (.slice O ins.length f1) (.slice ax au.length f2) (.slice Z outs.length f3);clear ae d cc bx z cK cF;go_wp2_with fail;clear cy bA ap;generalize a7.alloc _=cj at bG bo⊢;refine yaj bG.o ?_;clear bG;rintro e bi ⟨am,d1,aB,b2,d2,bc,d3,us,rfl,aN,a2,bk,_,i,K,a0⟩;have bx:=ez 0 0 bi (eW am ins.length d1 aB b2 d2 bc outs.length d3);have aH:V _:=bo.o.trans (a0.trans bx);have u:V (∀W,Kept 0 0 (bi.alloc (eW am ins.length d1 aB b2 d2 bc outs.length d3)) W->_):=λW k=>Mq k;have cz:=a2.1;have bV:okG ins us (gM vs outs X X.length).2=true:=by rw[i.okG];exact mr _ cd.o _
  have bb:V (∀W,Kept 0 0 _ W->_):=λW k=>GS.keep ⟨aN.is,a2.vs K,bk.is⟩ (bx.trans k);have bZ:V _:=bV;have cH:=bk.1;have F:V (Lk us _/\Kb _/\us.length=b2/\(gM _ _ _ _).2.length=outs.length):=⟨i,K,cz,cH⟩
  have bJ:V (b2<=2000):=by
   obtain⟨⟨_,q,_⟩,_⟩:=fW bV;rw[cz]at q;exact q
  clear aN a2 bk i K a0 bx cz bV cH bo;go_wp2_with fail;generalize bi.heap.size=H at u⊢;generalize bi.alloc _=ag at aH u bb⊢;have cq:V _:=cC.o.trans aH.o;refine yaj (b1.o _ cq.o) ?_;clear b1;rintro e bq ⟨C1,bA,v,ap,J,bM,ts,cI,gf,rfl,ae,d,_,cB⟩;simp only at ae d;have cG:=Mr (ae.trans aU.o.symm);have bx:=ez 0 0 bq (eW C1 ins.length bA v ts.length ap J outs.length bM);have co:V (StL _ (bq.alloc (eW _ _ _ _ _ _ _ _ _)) _ _ _ _ _ _ _ _ _ _ _ _ (gM _ _ X 0)):=⟨rL _ _ _ _,(wk d.r1 rfl).keep bx,(IX d.r2 rfl).keep bx,(wk d.r3 rfl).keep bx,cG,d.k,cB.size,cB.trans bx⟩
  clear ae d cB bx cG aU;go_wp2_with fail;generalize bq.heap.size=U at co⊢;generalize bq.alloc _=cX at co⊢;have b7:V _:=λW k=>bE.o W (R.o.trans (aH.o.trans k));go_loopw [17] (λx W=>∃(k:Nat) (C1:Option Addr) (bA:Nat) (v:Option Addr) (T ap:Nat) (J:Option Addr) (bM:Nat) (ts:List Vl),k<=X.length/\x=hD k/\V (StL ag W U C1 v J ins.length bA T ap outs.length bM ins ts (gM vs outs X k))) (λx _=>X.length-(intOf x).toNat)
  case atStart=>exact⟨0,_,_,_,_,_,_,_,_,yae,rfl,co⟩
  case round=>
   clear co;obtain⟨k,C1,bA,v,T,ap,J,bM,ts,N,rfl,a6⟩:=hrel;obtain⟨_,a8,aV,p2,bd,aL,aJ⟩:=a6.o.bx;by_cases aC:k<X.length
   ·obtain⟨c6,op,ai,rfl,cP,_,_,b8⟩:=(b7.o _ a6.o.ke).at_idx (o:=k) xaa xaa;obtain rfl:k=ai:=xaa;rw[Int.toNat_natCast]at b8;have bz:=b4.o k aC;have r:V (okG ins ts (gM vs outs X k).2=true):=by show _=_;rw[a6.o.lk.okG];exact mr _ cd.o k
    have bg:V _:=uh (outs:=(gM vs outs X k).2) (X.getD k 0) a6.o.lk a6.o.kb (ms _ cw.o k);have f:V (∀W,Kept 0 0 _ W->Calls _ 9 _ W (PRk W _ _ _ (gM _ _ _ (k+1)))):=λW l=>(rpL W _ bz _ _ _ _ _ _ _ _ _ _ _ _ (a6.o.i.keep l) (a6.o.v.keep l) (a6.o.o.keep l) a6.o.kb r.o).mono λ_ _ h=>h.lk bg.o;have bW:V _:=a6.o;clear bz a6 r bg;generalize X.getD k 0=p at b8 f;go_wp2_with fail;go_cut [18,19] (λx y cl=>∃P am d1 aB b2 d2 bc d3 us,x=hB P/\y=hD 0/\V (CuR wr cl P am aB bc ins.length d1 b2 d2 outs.length d3 ins us (gM vs outs X (k+1))))
    case first=>
     go_region_with (first
      |(go_at_call 9;refine yaj (f.o _ ((eF _).trans (ez 0 0 _ _))) ?_;rintro e b5 ⟨am,d1,aB,b2,d2,bc,d3,us,rfl,aN,a2,bk,B,i,K,a0⟩;have U:V _:=CuR.early (eF _) aN a2 bk B i K a0;have j:RB _ wr.heap.size _ _ _:=RB.keep (fF wr.drew) a0;obtain⟨_,b9,bK,cr,bF,a9,ba⟩:=j;clear aN a2 bk B i K a0)
      |(go_at_call 9;refine yaj (f.o _ (eF _)) ?_;rintro e b5 ⟨am,d1,aB,b2,d2,bc,d3,us,rfl,aN,a2,bk,B,i,K,a0⟩;have U:V _:=CuR.late (eF _) aN a2 bk B i K a0;clear aN a2 bk B i K a0))
     all_goals
      go_wp2_with fail
      go_meet
      exact⟨_,_,_,_,_,_,_,_,_,rfl,rfl,U⟩
    case rest=>
     obtain⟨P,aM,d1,aD,c7,d2,cU,d3,c8,rfl,rfl,C⟩:=hcut;clear a8 aV p2 bd aL aJ f b8;obtain⟨_,a8,aV,p2⟩:=C.o.bx;obtain⟨_,aT,ao,aG,bF,a9,ba⟩:=bW.o.bx.keep C.o.ke;have bu:V _:=bW.o.next C.o.ke C.o.i C.o.v C.o.o C.o.l C.o.lk C.o.kb;clear bW C;go_wp2;go_roundw;exact⟨k+1,_,_,_,_,_,_,_,_,by omega,by go_num,bu⟩;simp[intOf];omega
   obtain rfl:k=X.length:=xaa;have ce:T=b2:=by rw[<-a6.o.v.1,a6.o.lk.len,<-F.o.1.len,F.o.2.2.1]
   subst ce;have ct:=b6.o;have aO:V _:=a6.o.ke;have cf:V _:=BG _ _ _ _ _ _ _ _ d1 _ d2 _ d3 bA ap bM _ _ _ _ (F.o.1.trans a6.o.lk.symm) (bb.o _ aO.o) ⟨a6.o.i.is,a6.o.v.vs a6.o.kb,a6.o.o.is⟩ xaa bJ.o xaa;obtain⟨_,aT,ao,aG⟩:=u.o _ aO.o;clear a6 ct b7 bE b4 aw;go_wp2_with fail;refine yaj cf.o ?_;clear cf a8 aV p2 bd aL aJ aT ao aG;rintro e aD ⟨rfl,cB⟩;have bH:V _:=aO.o.trans cB;have aI:V _:=R.o.trans (aH.o.trans bH.o);clear cB aO;obtain⟨_,a8,aV,p2⟩:=u.o _ bH.o;obtain⟨_,bd,aL,aJ⟩:=cu.o _ aI.o;go_wp2_with fail;go_cut [20,21] (λx y cl=>∃bw cg aA,x=.slice bw outs.length cg/\y=hD 0/\V (SS cl bw outs.length aA/\WnO bT ins us (gM vs outs X X.length).2 aA)/\V (Kept 0 0 ag cl))
   case first=>
    go_region_with (first
     |(go_at_call 7;refine yaj (s.o _ (aI.o.trans (eF _))) ?_;rintro e bj ⟨cM,br,xss,rfl,a5,ca⟩;have g:=bH.o.trans ((eF _).trans ca);have bn:V _:=a5.2;obtain⟨_,bm,ay,aW⟩:=u.o _ g;have HE:V _:=Ai _ _ _ _ _ _ d1 _ d2 _ d3 _ br _ _ _ _ (bb.o _ g) a5.1 a5.2.1 bZ.o a5.2.2.1;have b0:V _:=g;clear a5 ca g)
     |(go_at_call 11;refine yaj HE.o ?_;rintro e cS ⟨G,ar,cx,aA,rfl,_,al,ah,cn,bS⟩;have aS:V (SS cS _ _ _/\WnO _ _ _ _ _):=⟨al.ss ah,_,bn.o,by rw[F.o.2.2.2,F.o.2.2.1];exact cn⟩;have aQ:V _:=b0.o.trans bS;clear al ah cn bS))
    all_goals
     go_wp2_with fail
     go_meet
     exact⟨_,_,_,rfl,rfl,aS,aQ⟩
   case rest=>
    obtain⟨bw,cg,aA,rfl,rfl,aS,aQ⟩:=hcut;obtain⟨ch,c9⟩:∃ch,ch=wc:=⟨_,rfl⟩
    subst c9;have t:V _:=BA _ _ _ _ cg cT _ _ aS.o.1 (be.o.1.keep (aH.o.trans aQ.o)) (λk N=>Jc cd.o F.o.1 F.o.2.1 cw.o F.o.2.2.2 aS.o.2 be.o.2 N) (hM b6.o);have bD:V _:=cq.o.trans aQ.o;clear a8 aV p2 bd aL aJ aS be aQ u cu bb bp s cd F cw bZ b6 aH bH aI cC R bR cq bJ;go_wp2_with (go_at_call 12;refine yaj t.o ?_;rintro e cV ⟨rfl,bU⟩;replace bD:V _:=bD.o.trans bU;clear bU);go_ret;exact⟨rfl,bD.o⟩
end
section
open Go.ChangeShapes Go.WideShapes Go.ChangeAt Go.RowKit Flt
namespace POpt
theorem lifted(s)(i:s.Started)(H)(enc:TypeId×Value->H):
  ReturnsInHanded {} Tryz.checked s 3 .any (Rows.fnOptimiseSpec.pre6 enc prog Tryz.f3 Rows.fnOptimiseRow.domain false) (Rows.fnOptimiseSpec.post enc prog Tryz.f3 false true false false):=by
 refine returnsInHanded_of_change (C:=Tryz.checked) own i (by kernel_rfl) func3
  (ChangeSpec.witness6 (enc:=enc) (C:=Tryz.checked) false ⟨#[],#[.slice none 0 0,.slice none 0 0],[]⟩ 8 (by kernel_rfl) (by kernel_rfl) (by kernel_rfl) (by kernel_rfl)) ?_
 intro W base args J C z k bf F _;have g:∀(j:Nat) t v,Tryz.f3.params[j]? =some t->args[j]? =some v->Value.okWide prog W .any base t v:=k;have n:=bf;obtain⟨p,q,f,av,rfl,u,G⟩:=bf;have aU:DataW.TrodAll enc prog W 0 (λ_=>true) true Tryz.f3.params.toList args.toList J p:=f;rw[Tryz.params3]at aU g;obtain⟨bF,a9,bu,d1,a8,aV,rfl,rfl,rfl,ae,B⟩:=trodAll_two aU;obtain⟨rfl,rfl⟩:=trodVars_none av;have r:∀x∈a8,x.block<W.heap.size:=by obtain⟨m,aq⟩:=ae;exact DataW.trod_lt m _ _ _ aq
 have ab:∀x∈aV,x.block<W.heap.size:=by obtain⟨m,aq⟩:=B;exact DataW.trod_lt m _ _ _ aq
 obtain⟨a,l,bd,rfl⟩:=okWide_slice underlying22 (g 0 22 bF rfl rfl);obtain⟨b,X,cb,rfl⟩:=okWide_slice underlying22 (g 1 22 a9 rfl rfl);obtain⟨y,P,Q⟩:=tW ae;obtain⟨_,az,fb⟩:=tW B;clear f k;have w:Calls prog 3 #[.slice a l bd,.slice b X cb] W λe I=>e=.returned (.bool true)/\Below W.heap.size W I:=(LP Q y fb).mono λ_ _ h=>⟨h.1,h.2.below⟩
 refine w.mono λe W' ⟨Z,c⟩=>?_;subst Z;exact⟨_,rfl,_,_,_,[],_,[],n,trodAll_mk1 (shut_bool underlying4 _),(trodAll_cons_mk (Below.trod y8 (by kernel_rfl) (of_decide_eq_true (by kernel_rfl)) ae c r) (trodAll_cons_mk (Below.trod y8 (by kernel_rfl) (of_decide_eq_true (by kernel_rfl)) B c ab) trodAll_mk0)),rfl,c.frame _,λh=>by cases h⟩
end POpt
end
end Go.Proofs.Z
namespace Go.Proofs.YtbhmhdllnfkjhaaGreat
open Z _root_.Go.Proofs.Tryz
theorem fnOptimise_holds:Rows.FnOptimiseSaid:=
 OpenClaim.holds_of_wide 3 Tryz.f3 rfl rfl rfl rfl rfl rfl rfl ⟨rfl,rfl,rfl,rfl,rfl⟩ rfl rfl rfl rfl rfl (by kernel_rfl) func3 (by kernel_rfl)
  (of_decide_eq_true (by kernel_rfl)) (by unfold Func.isWrapper;first|(rw[hG (by decide+kernel)];kernel_rfl)|(rw[hF (by decide+kernel)];exact⟨rfl,rfl⟩))
  (λs i H enc _=>POpt.lifted s i H enc)
#print axioms fnOptimise_holds
end Go.Proofs.YtbhmhdllnfkjhaaGreat
