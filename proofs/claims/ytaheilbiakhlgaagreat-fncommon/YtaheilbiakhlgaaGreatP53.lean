import Derived.Test.YtaheilbiakhlgaaGreatP52
import Derived.Test.YtaheilbiakhlgaaGreatP47
namespace Go.Proofs.Z
open Tryz
set_option maxRecDepth 1000000
set_option maxHeartbeats 0
open Go.RowKit Flt
attribute[local go_sem] eF eE eD
variable{w:World}{a:Option Addr}
variable{bs:List Int}
theorem PF{W}{st:LSt}{aS bb bq I}(aT:w.heap.size<=I)(k:Kept 0 0 w W)(h:W.ownsRow I 3 1 aS st.ins.length (st.ins.map (Value.int .i64))/\W.ownsRow I 40 6 bb st.vs.length (fW st.vs)/\W.ownsRow I 3 1 bq st.outs.length (st.outs.map (Value.int .i64))/\Apart aS bb/\Apart aS bq/\Apart bb bq)(O:∀v∈st.vs,v.k<18446744073709551616):∃a1 c1 Z c2 a3 c3,aS=.slice a1 st.ins.length c1/\bb=.slice Z st.vs.length c2/\bq=.slice a3 st.outs.length c3/\DG W w.heap.size aS bb bq st.ins st.vs st.outs:=by
 obtain⟨a1,c1,af⟩:=jd h.1;obtain⟨Z,c2,a0⟩:=jd h.2.1;obtain⟨a3,c3,aj⟩:=jd h.2.2.1;exact⟨_,_,_,_,_,_,af,a0,aj,jc h.1 aT,jc h.2.1 aT,jc h.2.2.1 aT,h.2.2.2.1,h.2.2.2.2.1,h.2.2.2.2.2,O,k.size⟩
theorem Is(hb:∀i,nv bs i<256){i T t j r}
  (q:∀{w:World}{P n cap:Nat}{a:Option Addr},RdF w P a n cap (ni bs i) bs->Calls prog 35 #[hD P] w (SrO w P n cap a bs j t))
  (eT:∀{w:World}{a:Option Addr}{cap:Nat},TxA w a t.length t->t.length<=cap->Calls prog 34 #[.slice a t.length cap] w (PaZ w (w.heap.size+1) r))
  (bh:((nv bs i:Int)%4=0/\T=qQ bs (ni bs i))\/((nv bs i:Int)%4=1/\∃st,r=.ok st/\T=(st.ins,st.vs.map sv,st.outs,j))\/((nv bs i:Int)%4=1/\∃p,r=.error (0,p)/\T=([],[],[],j))\/((nv bs i:Int)%4=1/\∃c p,c≠0/\r=.error (c,p)/\V (T=rsT bs j))\/((nv bs i:Int)%4≠0/\(nv bs i:Int)%4≠1/\V (T=rsT bs (ni bs i))))
 {P n cap} (C:RdF w P a n cap i bs):Calls prog 15 #[hD P] w (DgT w P a n cap bs T):=by
  have hP:=C.lt;have bE:=ez 0 0 w fE;have bw:V _:=jg _ P a n _ i _ (C.keep0 bE);have s:V _:=bE;clear C bE;go_enter func15,ntmps15;go_upto_region 2 with (go_at_call 32;refine yai bw.o ?_;rintro e ay ⟨rfl,(a6:V _),am,-⟩;have b4:V _:=(ft s.o).trans am;have aI:V (RB _ _ iR iR iR):=(gg w).kept am xaa;clear am);clear bw s;rcases bh with⟨c4,b3⟩|⟨c4,st,av,rfl⟩|⟨c4,p,av,rfl⟩|⟨c4,c,p,ak,av,HE⟩|⟨c0,c1,HE⟩
  ·have aY:V (Calls prog 33 #[hD P] ay (DgT ay P a n cap bs T)):=by rw[b3];exact PW a6.o
   clear b3;go_wp2_with (go_at_call 33;refine yai aY.o ?_;rintro e aF ⟨a1,c1,Z,c2,a3,c3,vs,rfl,ai,d,aa,aJ⟩;obtain⟨hb,(aL:V _)⟩:=DgF.up aI.o hP b4.o ai d aa aJ;obtain⟨_,bo,az,aZ,bl,bG,bP⟩:=hb;clear ai d aa aJ);obtain⟨bi,a5,p2⟩:=fg _ _ _ _ _ bo az aZ (.slice a1 T.1.length c1) (.slice Z vs.length c2) (.slice a3 T.2.2.1.length c3);exact yay (v:=eX a1 T.1.length c1 Z vs.length c2 a3 T.2.2.1.length c3) (by simp[results,results15,go_sem,bi,a5,p2]) rfl aL.o
  ·subst av;have f:V _:=q a6.o;go_upto_region 6 with (first
   |(go_at_call 35;refine yai f.o ?_;rintro e aF ⟨g,bT,rfl,ao,bS,(bR:V _),aJ⟩;have cq:V _:=eT (Bg bS) ao;have bX:V _:=b4.o.trans aJ;have ch:V _:=aI.o.kept aJ xaa;clear ao bS aJ)
   |(go_at_call 34;refine yai cq.o ?_;rintro e b8 ⟨aS,bb,bq,rfl,bV,bO,cc,l,m,o,H,b7⟩;obtain⟨a1,c1,Z,c2,a3,c3,af,a0,aj,d⟩:=PF (Nat.le_succ _) b7 ⟨bV,bO,cc,l,m,o⟩ H.k;subst af a0 aj;have HD:V _:=d;have bU:V _:=b7;clear bV bO cc l m o H b7 d))
   have bW:=bU.o.trans (ez 0 0 _ (.cells #[.slice a1 st.ins.length c1,.slice Z st.vs.length c2,.slice a3 st.outs.length c3] 26));obtain⟨hb,(aL:V _)⟩:=DgF.up ch.o hP bX.o rfl (HD.o.keep (ez 0 0 _ _)) (bR.o.keep0 bW) (ft bW);obtain⟨_,bo,az,aZ,bl,bG,bP⟩:=hb;clear bW;go_wp2_with fail;obtain⟨bi,a5,p2⟩:=fg _ _ _ _ _ bo az aZ (.slice a1 st.ins.length c1) (.slice Z st.vs.length c2) (.slice a3 st.outs.length c3);exact yay (v:=eX a1 st.ins.length c1 Z st.vs.length c2 a3 st.outs.length c3) (by simp[results,results15,go_sem,bi,a5,p2]) rfl aL.o
  ·subst av;have f:V _:=q a6.o;go_upto_region 6 with (first
   |(go_at_call 35;refine yai f.o ?_;rintro e aF ⟨g,bT,rfl,ao,bS,(bR:V _),aJ⟩;have cq:V _:=eT (Bg bS) ao;have bX:V _:=b4.o.trans aJ;have ch:V _:=aI.o.kept aJ xaa;clear ao bS aJ)
   |(go_at_call 34;refine yai cq.o ?_;rintro e b8 ⟨rfl,(bU:V _)⟩))
   have cb:=ez 0 0 b8 fE;have bW:=bU.o.trans cb;have d:DG _ _ iR iR iR [] [] []:=⟨yav _ _ _ _,yav _ _ _ _,yav _ _ _ _,(λ_ h=>by cases h),(λ_ h=>by cases h),(λ_ h=>by cases h),(λ_ h=>by cases h),bU.o.size⟩
   obtain⟨hb,(aL:V _)⟩:=DgF.up (ins:=[]) (vs:=[]) (outs:=[]) (S:=[]) ch.o hP bX.o rfl (d.keep cb) (bR.o.keep0 bW) (ft bW);obtain⟨_,bo,az,aZ,bl,bG,bP⟩:=hb;clear bW cb d;go_wp2_with fail;obtain⟨bi,a5,p2⟩:=fg _ _ _ _ _ bo az aZ iR iR iR;exact yay (v:=eX none 0 0 none 0 0 none 0 0) (by simp[results,results15,go_sem,bi,a5,p2]) rfl aL.o
  ·subst av;have f:V _:=q a6.o;go_upto_region 6 with (first
   |(go_at_call 35;refine yai f.o ?_;rintro e aF ⟨g,bT,rfl,ao,bS,(bR:V _),aJ⟩;have cq:V _:=eT (Bg bS) ao;have bX:V _:=b4.o.trans aJ;have ch:V _:=aI.o.kept aJ xaa;clear ao bS aJ)
   |(go_at_call 34;refine yai cq.o ?_;rintro e b8 ⟨rfl,(bU:V _)⟩))
   have bW:=bU.o.trans (ez 0 0 _ fE);go_upto_if 37 with fail
   refine wp_cond_false (congrArg _ (yam ak)) (wp_skip ?_);exact(‹∀(a:Act) (w:World),Code.wp _ _ _ a w->_›) _ _ (Hu hb (bR.o.keep0 bW) (bX.o.trans (ft bW)) (ch.o.keep bW) hP HE.o)
  go_upto_if 28 with fail
  refine wp_cond_false (congrArg _ (yam c1)) (wp_skip ?_);exact(‹∀(a:Act) (w:World),Code.wp _ _ _ a w->_›) _ _ (Hu hb a6.o b4.o aI.o hP HE.o)
variable{bs:List Int}
theorem dgD(hb:∀i,nv bs i<256)(i):∃T,∀{w:World}{P n cap:Nat}{a:Option Addr},RdF w P a n cap i bs->Calls prog 15 #[hD P] w (DgT w P a n cap bs T):=by
 obtain⟨t,j,a6,ae⟩:=P3 hb (ni bs i);obtain⟨r,aF⟩:=psD t a6;by_cases c0:nv bs i%4=0
 ·exact⟨_,λC=>Is hb ae aF (.inl ⟨by omega,rfl⟩) C⟩
 by_cases c1:nv bs i%4=1
 ·have br:(nv bs i:Int)%4=1:=xaa;rcases r with⟨c,p⟩|st
  ·by_cases ai:c=0
   ·subst ai;exact⟨_,λC=>Is hb ae aF (.inr (.inr (.inl ⟨br,p,rfl,rfl⟩))) C⟩
   exact⟨_,λC=>Is hb ae aF (.inr (.inr (.inr (.inl ⟨br,c,p,ai,rfl,rfl⟩)))) C⟩
  exact⟨_,λC=>Is hb ae aF (.inr (.inl ⟨br,_,rfl,rfl⟩)) C⟩
 exact⟨_,λC=>Is hb ae aF (.inr (.inr (.inr (.inr ⟨by omega,by omega,rfl⟩)))) C⟩
theorem Bh{W W' l h}(k:Kept 0 0 w W)(y:Kept l h W W')(ah:w.heap.size<=l):Kept 0 0 w W':=
 ⟨y.os.trans k.os,y.tape.trans k.tape,y.output.trans k.output,yan k.size y.size,λb hb _=>by rw[y.block b (hO k.size) xaa];exact k.block b hb xaa⟩
def DoO(w:World)(T:List Int×List Vl×List Int×Nat)(e:Ending)(w':World):Prop:=
 ∃a1 c1 a2 c2 a3 c3 vs v,e=.returned (.tuple #[eX a1 T.1.length c1 a2 vs.length c2 a3 T.2.2.1.length c3,v])/\vs.map sv=T.2.1/\DG w' w.heap.size (.slice a1 T.1.length c1) (.slice a2 vs.length c2) (.slice a3 T.2.2.1.length c3) T.1 vs T.2.2.1/\Kept 0 0 w w'
theorem Le{xs}(hb:∀i,nv (xs.take 500) i<256):∃T,∀{w:World}{a:Option Addr}{n cap:Nat},YS w a n xs->n<=cap->Calls prog 4 #[.slice a n cap] w (DoO w T):=by
 obtain⟨T,bh⟩:=dgD hb (niN (xs.take 500) (ni (xs.take 500) 0) (nv (xs.take 500) 0%6));refine⟨T,λ{w a n cap} h ak=>?_⟩;have bE:=ez 0 0 w fE;have B:(w.alloc fE).heap.size=w.heap.size+1:=by simp
 have HO:V _:=MN _ a n _ _ (h.keep bE) ak;have ba:V _:=@bh;have o:V _:=gg w;have s:V _:=bE;clear bh hb;generalize xs.take _=bs at HO ba;rw[B]at HO;clear h ak bE B;go_enter func4,ntmps4;go_wp2_with fail;refine yai HO.o ?_;rintro e ay ⟨rfl,⟨m,(a6:V _)⟩,am⟩;have b4:V _:=s.o.trans am;have aI:V _:=o.o.keep am;clear am s o HO;go_wp2_with fail;refine yai (KC a6.o) ?_;rintro e W2 ⟨v,rfl,(bP:V _),an⟩;have bN:V _:=Bh b4.o an xaa;have y:V (RB _ _ iR iR iR):=aI.o.kept an xaa;clear an b4 aI a6;go_wp2_with fail;refine yai (ba.o bP.o) ?_;rintro e aF ⟨a1,c1,Z,c2,a3,c3,vs,rfl,ai,d,aa,aJ⟩;have hP:=bP.o.lt;obtain⟨_,a7,aK,aP,bH,f1,f2⟩:=y.o.kept aJ xaa;obtain⟨bi,a5,p2⟩:=fg _ _ _ _ _ a7 aK aP (.slice a1 T.1.length c1) (.slice Z vs.length c2) (.slice a3 T.2.2.1.length c3);have al:=fh aF w.heap.size (.slice a1 T.1.length c1) (.slice Z vs.length c2) (.slice a3 T.2.2.1.length c3);have R:V (DoO w T _ _):=⟨_,_,_,_,_,_,_,v,rfl,ai,(d.kept al xaa).mono xaa,Bh (Bh bN.o aJ xaa) al yad⟩
 clear ai d aa aJ al hP bP bN y ba;go_wp2_with fail;exact yay (v:=.tuple #[eX a1 T.1.length c1 Z vs.length c2 a3 T.2.2.1.length c3,v]) (by simp[results,results4,go_sem,bi,a5,p2]) rfl R.o
theorem nvb{bs}(h:∀x∈bs,0<=x/\x<256)(i):nv bs i<256:=by
 unfold nv;by_cases c:i<bs.length
 ·have:=h _ (List.getElem_mem c);simp only[yah,yal c,Option.getD_some];first|omega|(split<;>omega)
 simp only[yah,List.getElem?_eq_none (Nat.le_of_not_lt c),Option.getD_none];first|omega|(split<;>omega)
theorem It{W u1 u2 u3}(k:Kept 0 0 (w.alloc (.cells #[u1,u2,u3] 26)) W):G0 W w.heap.size u1 u2 u3:=(fO w u1 u2 u3).keep k
theorem PH{us vs}(h:us.map sv=vs.map sv):Lk us vs:=by
 have e:sv=cv:=funext λv=>by unfold sv cv;rw[AM]
 unfold Lk;rw[<-e];exact h
def InO(w:World)(ys ins:List Int)(e:Ending)(w':World):Prop:=
 ∃ia ic xss,e=.returned (.slice ia ins.length ic)/\(SS w' ia ins.length xss/\jk xss/\inB ins xss=true/\∀j,gH (xss.getD j []) ((inN ys ins).getD j []))/\Kept 0 0 w w'
theorem Lf{lo hi' b bu bJ cm ins bc}(f:IS w lo hi' a ins.length ins)(bS:YS w b bJ bc)(aw:bJ<=1048576)(hn:ins.length<=20)(ah:ins.all lenB=true):
  Calls prog 8 #[.slice a ins.length bu,.slice b bJ cm,.bool true] w (InO w bc ins):=by
 have aM:∀j,j<ins.length->_:=λj hj=>of_decide_eq_true (List.all_eq_true.1 ah (ins.getD j 0) (by rw[yah,yal hj];exact List.getElem_mem _));refine(KT f bS aw xaa aM).mono ?_;rintro e J ⟨bR,b2,xss,B,U,h3,a6⟩;refine⟨_,_,_,B,⟨U,U.words,?_,λj=>?_⟩,a6⟩
 ·unfold inB;rw[U.len,decide_eq_true rfl,Bool.true_and,List.all_eq_true];intro j hj;have hj:=List.mem_range.1 hj;rw[jY (h3 j hj),Cd _ hj,zS,List.length_map,List.length_range];have:=aM j hj;simp only[beq_iff_eq];omega
 by_cases c:j<ins.length
 ·exact h3 j c
 rw[yah,List.getElem?_eq_none (hT U.len),yah,List.getElem?_eq_none (by simp[inN];omega)];rfl
def WnO(ys ins:List Int)(vs:List Vl)(outs:List Int)(wss:List (List Nat)):Prop:=
 ∃xss,(jk xss/\inB ins xss=true/\∀j,gH (xss.getD j []) ((inN ys ins).getD j []))/\∀j,j<outs.length->gH (wss.getD j []) ((fw xss vs vs.length).getD (outs.getD j 0).toNat [])
