import Derived.Test.YtdpbpcnldpkljaaGreatP32
import Derived.Test.YtdpbpcnldpkljaaGreatP40
import Derived.StillTail
namespace Go.Proofs.Z
open Tryz
set_option maxRecDepth 1000000
set_option maxHeartbeats 0
section
open Go.RowKit
variable {P:Program}{ops:Array Oper}{md:Region.Mode}{C:World->Prop}{n:Nat}
def hdQ (P:Program)(md:Region.Mode)(ops:Array Oper)(C:World->Prop)(n:Nat)(L:Array Bool->Act->Prop):Nat->Array Bool->Act->Prop
 | 0,l,a=>L l a
 | f+1,l,a=>Region.ready md ops l≠[]/\∀i∈Region.ready md ops l,i<n/\qOp P ops C i (hdQ P md ops C n L f (l.setIfInBounds i true)) a
theorem hQa {g:Nat}{L:Array Bool->Act->Prop}{Q:Exit->Act->World->Prop}(hL:∀l a w,C w->L l a->wpAny P md ops Q g l a w):∀f l a w,C w->hdQ P md ops C n L f l a->wpAny P md ops Q (f+g) l a w
 | 0,l,a,w,hw,h=>by rw[Nat.zero_add];exact hL l a w hw h
 | f+1,l,a,w,hw,h=>by
  rw[Nat.add_right_comm]
  exact⟨λh0=>absurd h0 h.1,λi hi=>wpOp_of_qOp hw (λa' w' hw' h'=>hQa hL f _ a' w' hw' h') (h.2 i hi).2⟩
theorem hQt {i:Nat}{oi:Oper}{v:Value}{L:Array Bool->Act->Prop}(hi:ops[i]?=some oi)(hsel:Region.noSelect ops=true)(hs:Region.sinkB md ops n=true)(hc:Region.chainB md ops n=true)(hn:n<ops.size)(hin:i<n)(hD:∀l a,L l a->∀j∈Region.ready md ops l,n <= j):
  ∀f l a,HeadInv md ops n l->(∀j oj,ops[j]?=some oj->j≠i->l.getD j true=false->(∀e∈oj.after,Region.binds md e=true->e.on≠i)->oi.apart ops oj=true)->i∈Region.ready md ops l->YieldsIn P ops C oi v a->hdQ P md ops C n L f (l.setIfInBounds i true) (a.put oi.dst v)->hdQ P md ops C n L (f+1) l a:=by
 intro f
 induction f with
 | zero=>
  intro l a inv _ hr hy H
  have below:∀j∈Region.ready md ops l,j<n:=λj hj=>(Nat.lt_or_ge j n).resolve_right λh=>tail_waits hs hc hn inv _ i rfl hin (mem_ready.1 hr).1 j h hj
  refine ⟨λh=>(by rw[h] at hr;cases hr),λj hj=>⟨below j hj,?_⟩⟩
  by_cases e:j=i
  ·subst e;exact hy.qOp hi H
  ·exact absurd (hD _ _ H j (ready_mono hj e)) (Nat.not_le_of_lt (below j hj))
 | succ f ih=>
  intro l a inv hf hr hy H
  have hu:=(mem_ready.1 hr).1
  have below:∀j∈Region.ready md ops l,j<n:=λj hj=>(Nat.lt_or_ge j n).resolve_right λh=>tail_waits hs hc hn inv _ i rfl hin hu j h hj
  refine ⟨λh=>(by rw[h] at hr;cases hr),λj hj=>⟨below j hj,?_⟩⟩
  by_cases e:j=i
  ·subst e;exact hy.qOp hi H
  ·obtain⟨hj0,oj,hoj,ha⟩:=mem_ready.1 hj
   have hx:∀e∈oj.after,Region.binds md e=true->e.on≠i:=λe he hb hq=>by
    have:=ha e he hb
    rw[hq,getD_both hu] at this
    cases this
   refine qOp_mono (λa' h3=>ih _ a' (inv.set hj (below j hj)) (λk ok hk hki hun hno=>hf k ok hk hki ?_ hno) (ready_mono hr (Ne.symm e)) h3.1 ?_) (qOp_put hoj (hf j oj hoj e hj0 hx) (λcs b=>Region.noSelect_spec hsel i oi cs b hi) (λcs b=>Region.noSelect_spec hsel j oj cs b hoj) hy (H.2 j (ready_mono hj e)).2)
   ·by_cases q:j=k
    ·subst q;exact hj0
    ·rw[getD_set_ne true q] at hun;exact hun
   ·rw[Array.setIfInBounds_comm _ _ e]
    exact h3.2
theorem hQl {g:Nat}{R:Act->Prop}(hsel:Region.noSelect ops=true)(hs:Region.sinkB md ops n=true)(hc:Region.chainB md ops n=true)(hn:n<ops.size):
  ∀(l:List Oper)(k:Nat)(t:Array Bool)(a:Act),(∀j,j<l.length->l[j]?=ops[k+j]?)->k+l.length=n->HeadInv md ops n t->Region.lexHead md ops g l.length k t=true->wpQuiet P ops C R l a->hdQ P md ops C n (λt' a'=>Region.seqB md ops g n t'=true/\R a') l.length t a
 | [],k,t,a,_,hk,_,hB,h=>by
  obtain rfl:k=n:=hk
  exact⟨hB,h⟩
 | o::l,k,t,a,hl,hk,inv,hB,h=>by
  have h0:ops[k]?=some o:=(hl 0 (Nat.zero_lt_succ _)).symm
  simp only[List.length_cons,Region.lexHead,Bool.and_eq_true] at hB hk hl
  obtain⟨⟨hr,hf⟩,hB'⟩:=hB
  have hr':k∈Region.ready md ops t:=by simpa using hr
  have hq:qOp P ops C k (wpQuiet P ops C R l) a:=by unfold qOp;simp only[h0];exact h
  obtain⟨v,hy,hK⟩:=yieldsIn_of_qOp h0 hq
  exact hQt h0 hsel hs hc hn xaa (λ_ _ q=>seqB_ready q.1) l.length t a inv (Region.free_spec h0 hf) hr' hy (hQl hsel hs hc hn l (k+1) _ _ (λj hj=>by have:=hl (j+1) xaa;simpa[Nat.add_assoc,Nat.add_comm 1 j] using this) xaa (inv.set hr' xaa) hB' hK)
theorem hQr {id:Nat}{Q:Exit->Act->World->Prop}{a:Act}{w:World}{l:List Oper}(n:Nat)(hm:P.follows .mixedOrders=true)(hB:Region.lexTailB .any l.toArray n=true)(hC:C { w with drawn:=w.drawn+1 })
  (h:wpQuiet P l.toArray C (λa'=>∀w',C w'->wpList P l.toArray Q (l.drop n) a' w') (l.take n) a):(Code.region id l.toArray true).wp P Q a w:=by
 simp only[Region.lexTailB,Bool.and_eq_true,decide_eq_true_eq] at hB
 obtain⟨⟨⟨⟨hsel,hn⟩,hs⟩,hc⟩,hx⟩:=hB
 have hn':n<l.length:=by simpa using hn
 have ht:(l.take n).length=n:=by simp;omega
 have H:=hQl (md:=.any) (C:=C) (g:=l.toArray.size-n) hsel hs hc hn (l.take n) 0 (Array.replicate l.toArray.size false) a (λj hj=>by
  rw[ht] at hj
  simp[hj]) xaa ⟨by simp,λj oj _ q=>(by rw[getD_replicate_false] at q;cases q),λt _ q=>getD_in (by simpa using q) (getD_replicate_false _ _)⟩ (by rw[ht];exact hx) h
 refine wp_region_any hm ?_
 have:=hQa (Q:=Q) (g:=l.toArray.size-n) (λt a' w' hw' q=>?_) _ _ _ _ hC H
 ·rw[ht,Nat.add_sub_cancel' (Nat.le_of_lt hn)] at this
  exact this
 ·have hd:(l.drop n).length=l.toArray.size-n:=by simp
  rw[<- hd]
  exact wpAny_of_seq (l.drop n) n t a' w' (λj=>by simp) (by rw[hd];exact q.1) (q.2 w' hw')
structure KW (w:World) where
 v:World
 k:Kept 0 0 w v
instance (w:World):Nonempty (KW w):=⟨⟨w,.refl _ _ _⟩⟩
end
theorem xFF{P:Prop}(h:P:=by
 rcases r1 with⟨c,p⟩|⟨s1,x⟩
 ·exact xhk
 ·exact xGG):P:=h
theorem xGG{P:Prop}(h:P:=by
 obtain⟨gw1,hx⟩:=HG.out s1 x rfl
 have hx0:¬((x:Int)<0):=xaa
 go_upto_region 8 with (go_at_call 75;refine yai HC1'.out ?_;rintro e w2 ⟨rfl,v1,v2,v3,v4,hW2,hM2⟩)
 have HC3:Hid _:=HC2'.out s1 x rfl w2 v1 v2 v3 v4 hW2 hM2
 have HM2:Hid _:=hM2
 clear HC1' HC2' hW2 hM2
 rcases r2 with⟨c,p⟩|⟨s2,y⟩
 ·exact xgr
 ·exact xHH):P:=h
theorem xHH{P:Prop}(h:P:=by
 obtain⟨gw2,hy⟩:=HG2.out s1 x rfl s2 y rfl
 have hy0:¬((y:Int)<0):=xaa
 go_upto_region 11 with (go_at_call 75;refine yai HC3.out ?_;rintro e w3 ⟨rfl,z1,z2,z3,z4,hW3,hM3⟩)
 have hM3':=HM2.out.trans hM3
 have hT3:=HTk.out w3 _ hM3'
 have hx2:x<s2.vs.length:=yaj hx gw2.n
 have ka:=ez 0 0 w3 (.cells #[.int .i64 (x:Int),.int .i64 (y:Int)] 3)
 have HFt:Hid _:=tY (hW3.keep ka) gw2.g _ 2 2 [x,y] (Bo hW3.far x y) xaa (by intro i hi;simp at hi;rcases hi with rfl|rfl<;>assumption) (ts.getD k Tok.zero).pos
 have HR2:Hid (r=m6 s2 (ts.getD k Tok.zero) x y):=HR.out
 have HM3:Hid _:=hM3'.keep ka
 have HGw:Hid _:=gw2
 have HXY:Hid (∀i∈[x,y],i<s2.vs.length):=by intro i hi;simp at hi;rcases hi with rfl|rfl<;>assumption
 have c1:=hT3.c1 k hk
 have d1:(w3.alloc (.cells #[.int .i64 (x:Int),.int .i64 (y:Int)] 3)).cell? ⟨g,off+k*3+1,none⟩=_:=(ka.cell (p:=⟨g,off+k*3+1,none⟩) hT3.lt xaa).trans c1
 clear HR HG HG2 HC3 HM2 hW3 hM3 hM3' hT3 gw1 hx ka gw2
 obtain⟨tk,htk⟩:∃tk,ts.getD k Tok.zero=tk:=⟨_,rfl⟩
 have HTt:Hid _:=htk
 rw[htk] at c1 d1 HFt HR2
 clear htk
 obtain⟨tsy,tps,ttx⟩:=tk
 simp only at c1 d1 HFt HR2
 cases hft:iY s2 [x,y] tps with
 |error f=>
  obtain⟨c,p⟩:=f
  rw[hft] at HFt
  have R:Hid (r=.error (c,p)):=HR2.out.trans (ux hft)
  clear hft HR2
  go_wp2_with (go_at_call 108;refine yai HFt.out ?_;rintro e w4 ⟨rfl,hT⟩)
  go_ret
  rw[R.out]
  exact⟨rfl,hT.1,hT.2.1,HM3.out.bad hT.2.2⟩
 |ok q=>
  obtain⟨s3,fs⟩:=q
  rw[hft] at HFt
  have R:Hid (r=_):=HR2.out.trans (wO hft)
  obtain⟨gw3,hfl,nn,hfs⟩:=jH HGw.out.g [x,y] tps HXY.out hft
  clear hft HR2
  obtain⟨fs0,fs1,rfl⟩:∃a b,fs=[a,b]:=by
   match fs,hfl with
   |[a,b],_=>exact⟨a,b,rfl⟩
  have h0:=(hfs fs0 xac).1
  have h1:=(hfs fs1 xac).1
  go_upto_region 14 with (go_at_call 108;refine yai HFt.out ?_;rintro e w4 ⟨aF,cF,rfl,y1,y2,y3,y4,hW4,hM4,hX4⟩)
  have hT4:=HTk.out w4 _ (HM3.out.trans hM4)
  obtain⟨gv,cv,e2,hgv,cl⟩:=hW4.lenc h0
  obtain⟨gf,of,e3,hgf,hgl,cf⟩:=hX4.at_ xac
  subst e2 e3
  have HCl:Hid (∀W',Kept 0 0 w4 W'->W'.cell? ⟨g,off+k*3,none⟩=some (eE tsy)/\W'.cell? ⟨g,off+k*3+1,none⟩=some (.int .i64 (tps:Int))/\W'.cell? ⟨P,1,none⟩=some (.slice (some ⟨gv,0,none⟩) s3.vs.length cv)/\W'.cell? ⟨gv,fs0*6+1,none⟩=some (.int .i64 (eU s3 fs0))/\W'.cell? ⟨gf,of,none⟩=some (.int .i64 (fs0:Nat))/\W'.cell? ⟨gf,of+1,none⟩=some (.int .i64 (fs1:Nat))):=λW' kk=>⟨(kk.cell (p:=⟨g,off+k*3,none⟩) hT4.lt xaa).trans (by have:=hT4.c0 k hk;rw[HTt.out] at this;exact this),(kk.cell (p:=⟨g,off+k*3+1,none⟩) hT4.lt xaa).trans (by have:=hT4.c1 k hk;rw[HTt.out] at this;exact this),(hW4.keep kk).c1,(kk.cell (p:=⟨gv,fs0*6+1,none⟩) hgv xaa).trans cl,(kk.cell (p:=⟨gf,of,none⟩) hgl xaa).trans (cf 0 xac),(kk.cell (p:=⟨gf,of+1,none⟩) hgl xaa).trans (cf 1 xac)⟩
  have HPt:Hid (∀W',Kept 0 0 w4 W'->Calls prog 78 #[.pointer (some ⟨P,0,none⟩),(eI (lq tsy) (eU s3 fs0) (fs0:Nat) (fs1:Nat) 0).agg,.int .i64 (tps:Int)] W' λe W''=>(∃x:Int,e=.returned (.int .i64 x))/\Hid (TrO W P B u1 u2 u3 u4 bs r e W'')):=λW' kk=>yai (jV (hW4.keep kk) gw3.g (eI (lq tsy) (eU s3 fs0) (fs0:Nat) (fs1:Nat) 0) (gw3.g.lenB h0) yag tps) (λe W'' t=>⟨t.ret,by
   show TrO W P B u1 u2 u3 u4 bs r e W''
   rw[R.out]
   exact TrO.after ((HM3.out.trans hM4).keep kk) t⟩)
  have hN:=gw3.g.n
  have HOp:Hid (∀W',Calls prog 109 #[eE tsy] W' λe w'=>e=.returned (.int .i64 (lq tsy))/\w'=W'):=λW'=>As tsy W'
  generalize eU s3 fs0=l at HCl HPt
  generalize lq tsy=oo at HOp HPt
  generalize s3.vs.length=N at*
  clear cl cf hT4 hW4 hM4 hX4 gw3 hfs HFt R HM3 HTk HGw HXY c1 d1 HO1 hfl hgf hgl hgv HTt
  have q:=λx:KW w4=>HCl.out _ x.k
  refine hQr (C:=λw'=>∃x:KW w4,w'=x.v) 30 (by kernel_rfl) (by kernel_rfl) ⟨⟨w4.drew,eC _⟩,rfl⟩ ?_
  simp only[List.take_succ_cons,List.take_zero,List.drop_succ_cons,List.drop_zero]
  repeat (go_big_quiet_step (first
   |(go_at_call 109;exact yai (HOp.out _) λe w' h=>⟨h.1,⟨_,h.2⟩⟩)
   |(go_at_call 26;exact yai (gj _ _ _ _ _ _) λe w' h=>⟨h.1,⟨⟨w',(KW.k _).trans h.2⟩,rfl⟩⟩)))
  refine wpQuiet_nil ?_
  rintro w5 ⟨x,rfl⟩
  go_wp2_with (go_at_call 78;refine yai (HPt.out _ x.k) ?_;rintro e w7 ⟨⟨xx,rfl⟩,hT⟩)
  go_ret
  exact hT.out):P:=h
section
open Go.RowKit Flt
attribute [local go_sem] eD eB eA
variable {P B a b nL cL g off m cap:Nat} {u1 u2 u3 u4 v1 v2 v3 v4:Value} {st:LSt} {bs:List Bc} {aL:Option Addr} {r:Rs (LSt×Nat)} {W':World} {loc:Loc} {ts:List Tok} {e:Ex}
structure TrIn (W:World)(P B:Nat)(u1 u2 u3 u4:Value)(bs:List Bc)(st:LSt)(aL:Option Addr)(nL:Nat)(loc:Loc)(g off m cap:Nat)(ts:List Tok):Prop where
 ws:WS W P B u1 u2 u3 u4 bs st
 gd:Gd st
 nm:NmOK st
 lc:LcR (Mst P u1 u2 u3 u4) W aL nL loc
 ln:nL<=5000
 lo:LcOK loc st.vs.length
 tk:TkA W g off m ts
 tg:¬Mst P u1 u2 u3 u4 g
 m5:m<=5000
 mc:m<=cap
 ti:∀t∈ts,t.sym=gm->Dgs t.text
 tn:∀t∈ts,(t.sym=gm\/t.sym=iT)->i9 t.text
def TrC (f:Nat):Prop:=∀(W:World) (P B:Nat) (u1 u2 u3 u4:Value) (bs:List Bc) (st:LSt) (aL:Option Addr) (nL cL:Nat) (loc:Loc) (g off m cap:Nat) (ts:List Tok),TrIn W P B u1 u2 u3 u4 bs st aL nL loc g off m cap ts->∀(n:Nat) (e:Ex),Pr n [e] ts->n<=2->∀r,eJ f st loc e=some r->
 Calls prog 75 #[.pointer (some ⟨P,0,none⟩),.slice aL nL cL,.slice (some ⟨g,off,none⟩) m cap] W (TrO W P B u1 u2 u3 u4 bs r)
theorem TkA.in_ {w:World}{n:Nat}(h:TkA w g off n ts)(i j:Nat)(us:List Tok)(hu:us=(ts.drop i).take (j-i))(hj:j<=n):TkA w g (off+i*3) (j-i) us:=by subst hu;exact h.cut hj
theorem TrIn.sub {W:World}(h:TrIn W P B u1 u2 u3 u4 bs st aL nL loc g off m cap ts){st':LSt}(hw:WS W' P B v1 v2 v3 v4 bs st')(w:Gw st st')(k:Mv (Mst P u1 u2 u3 u4) W (Mst P v1 v2 v3 v4) W')(i j:Nat)(hj:j<=m)(us:List Tok)(hu:us=(ts.drop i).take (j-i)){cap':Nat}(hc:j-i<=cap'):TrIn W' P B v1 v2 v3 v4 bs st' aL nL loc g (off+i*3) (j-i) cap' us where
 ws:=hw
 gd:=w.g
 nm:=h.nm.gw w
 lc:=h.lc.mv k
 ln:=h.ln
 lo:=h.lo.le w.n
 tk:=(h.tk.keepC k.chg h.tg).in_ i j us hu hj
 tg:=λc=>(k.new g c).elim h.tg (λc=>by have:=h.tk.lt;omega)
 m5:=by have:=h.m5;omega
 mc:=hc
 ti:=λt ht=>h.ti t (by subst hu;exact List.mem_of_mem_drop (List.mem_of_mem_take ht))
 tn:=λt ht=>h.tn t (by subst hu;exact List.mem_of_mem_drop (List.mem_of_mem_take ht))
theorem yc {W:World}(H:TrIn W P B u1 u2 u3 u4 bs st aL nL loc g off m cap ts)(hp:Pr 0 [e] ts)(h0:(ts.getD 0 Tok.zero).sym=[40])(h2:2<=m)(r:Rs (LSt×Nat))
  (HC:∀W',Kept 0 0 W W'->Calls prog 75 #[.pointer (some ⟨P,0,none⟩),.slice aL nL cL,.slice (some ⟨g,off+3,none⟩) (m-2) (cap-1)] W' (TrO W P B u1 u2 u3 u4 bs r)):
  Calls prog 75 #[.pointer (some ⟨P,0,none⟩),.slice aL nL cL,.slice (some ⟨g,off,none⟩) m cap] W (TrO W P B u1 u2 u3 u4 bs r):=by
 have HO1:Hid _:=fB W g off m cap ts H.tk H.m5 [43] [45]
 have HO2:Hid _:=fB W g off m cap ts H.tk H.m5 [42] [47]
 rw[j8 hp] at HO1 HO2
 have c0:=H.tk.c0 0 xaa
 have c1:=H.tk.c1 0 xaa
 have c2:=H.tk.c2 0 xaa
 rw[h0] at c0
 have m5:=H.m5
 have mc:=H.mc
 have HC':Hid (∀W',Kept 0 0 W W'->Calls prog 75 #[.pointer (some ⟨P,0,none⟩),.slice aL nL cL,.slice (some ⟨g,off+3,none⟩) (m-2) (cap-1)] W' λe W''=>(∃x:Int,e=.returned (.int .i64 x))/\Hid (TrO W P B u1 u2 u3 u4 bs r e W'')):=λW' k=>yai (HC W' k) (λe W'' t=>⟨t.ret,t⟩)
 generalize ts.getD 0 Tok.zero=t at*
 clear h0 H hp HC
 obtain⟨sy,ps,tx⟩:=t
 simp only[Nat.zero_mul,Nat.add_zero] at c0 c1 c2
 go_enter func75,ntmps75
 go_upto_region 3 with (go_at_call 107;refine yai HO1.out ?_;rintro e w2 ⟨rfl,hw⟩;obtain rfl:=hw.symm)
 go_upto_region 15 with (go_at_call 107;refine yai HO2.out ?_;rintro e w2 ⟨rfl,hw⟩;obtain rfl:=hw.symm)
 go_upto_region 16 with fail
 change Code.wp _ _ _ _ (W.alloc (.cells #[eE [40],.int .i64 (ps:Int),eE tx] 74))
 have HB:Hid (TB (W.alloc (.cells #[eE [40],.int .i64 (ps:Int),eE tx] 74)) W.heap.size [40] ps tx):=gH W [40] ps tx
 have HK:Hid _:=ez 0 0 W (.cells #[eE [40],.int .i64 (ps:Int),eE tx] 74)
 generalize W.alloc (.cells #[eE [40],.int .i64 (ps:Int),eE tx] 74)=W1 at HB HK ⊢
 generalize W.heap.size=bx at HB ⊢
 have b0:=HB.out.c0
 have HC1:Hid _:=HC'.out W1 HK.out
 clear c0 c1 c2 HO1 HO2 HB HC'
 go_wp2_with (go_at_call 75;refine yai HC1.out ?_;rintro e w2 ⟨⟨x,rfl⟩,hT⟩)
 go_ret
 exact hT.out
def Bm (st:LSt)(q:Rs Nat):Rs (LSt×Nat):=match q with|.error f=>.error f|.ok v=>.ok (st,v)
theorem vE {W:World}(H:TrIn W P B u1 u2 u3 u4 bs st aL nL loc g off m cap ts)(hp:Pr 0 [e] ts)(h0:(ts.getD 0 Tok.zero).sym=f8)(h1:m=1):
  Calls prog 75 #[.pointer (some ⟨P,0,none⟩),.slice aL nL cL,.slice (some ⟨g,off,none⟩) m cap] W (TrO W P B u1 u2 u3 u4 bs (Bm st (fh st loc (ts.getD 0 Tok.zero)))):=by
 subst h1
 have HO1:Hid _:=fB W g off 1 cap ts H.tk H.m5 [43] [45]
 have HO2:Hid _:=fB W g off 1 cap ts H.tk H.m5 [42] [47]
 rw[j8 hp] at HO1 HO2
 have c0:=H.tk.c0 0 xaa
 have c1:=H.tk.c1 0 xaa
 have c2:=H.tk.c2 0 xaa
 have m5:=H.m5
 have mc:=H.mc
 have HV:Hid (∀W',Kept 0 0 W W'->_):=λW' k=>sx (H.ws.keep k) H.gd.m aL nL cL loc (H.lc.keep k) H.ln (ts.getD 0 Tok.zero)
 have HW:Hid _:=H.ws
 unfold f8 at h0
 generalize ts.getD 0 Tok.zero=t at*
 clear H hp
 obtain⟨sy,ps,tx⟩:=t
 simp only at h0
 subst h0
 simp only[Nat.zero_mul,Nat.add_zero] at c0 c1 c2
 obtain⟨r,hr⟩:∃r,r=Bm st (fh st loc ⟨[110,97,109,101],ps,tx⟩):=⟨_,rfl⟩
 rw[<-hr]
 have HR:Hid _:=hr
 clear hr
 go_enter func75,ntmps75
 go_upto_region 3 with (go_at_call 107;refine yai HO1.out ?_;rintro e w2 ⟨rfl,hw⟩;obtain rfl:=hw.symm)
 go_upto_region 15 with (go_at_call 107;refine yai HO2.out ?_;rintro e w2 ⟨rfl,hw⟩;obtain rfl:=hw.symm)
 go_upto_region 16 with fail
 change Code.wp _ _ _ _ (W.alloc (.cells #[eE [110,97,109,101],.int .i64 (ps:Int),eE tx] 74))
 have HB:Hid (TB (W.alloc (.cells #[eE [110,97,109,101],.int .i64 (ps:Int),eE tx] 74)) W.heap.size [110,97,109,101] ps tx):=gH W [110,97,109,101] ps tx
 have HK:Hid _:=ez 0 0 W (.cells #[eE [110,97,109,101],.int .i64 (ps:Int),eE tx] 74)
 generalize W.alloc (.cells #[eE [110,97,109,101],.int .i64 (ps:Int),eE tx] 74)=W1 at HB HK ⊢
 generalize W.heap.size=bx at HB ⊢
 have HV1:Hid _:=HV.out W1 HK.out
 obtain⟨b0,b1,b2⟩:W1.cell? ⟨bx,0,none⟩=some (eE [110,97,109,101])/\W1.cell? ⟨bx,1,none⟩=some (.int .i64 (ps:Int))/\W1.cell? ⟨bx,2,none⟩=some (eE tx):=⟨HB.out.c0,HB.out.c1,HB.out.c2⟩
 clear c0 c1 c2 HO1 HO2 HB HV
 generalize fh st loc ⟨[110,97,109,101],ps,tx⟩=q at HV1 HR
 rcases q with⟨c,p⟩|v
 ·exact xei
 ·go_wp2_with (go_at_call 110;refine yai HV1.out ?_;rintro e w2 ⟨rfl,k2⟩)
  go_ret
  rw[HR.out]
  exact⟨rfl,u1,u2,u3,u4,HW.out.keep (HK.out.trans k2),Mv.of (HK.out.trans k2)⟩
theorem WS.far {W:World}(h:WS W P B u1 u2 u3 u4 bs st):¬Mst P u1 u2 u3 u4 W.heap.size:=by
 exact xgg
theorem TrO.after {W0 W1:World}{e:Ending}(k:Mv (Mst P u1 u2 u3 u4) W0 (Mst P v1 v2 v3 v4) W1)(h:TrO W1 P B v1 v2 v3 v4 bs r e W'):TrO W0 P B u1 u2 u3 u4 bs r e W':=by
 rcases r with⟨c,p⟩|⟨st,v⟩
 ·obtain⟨h1,h2,h3,h4⟩:=h
  exact⟨h1,h2,h3,k.bad h4⟩
 ·obtain⟨h1,w1,w2,w3,w4,h2,h3⟩:=h
  exact⟨h1,w1,w2,w3,w4,h2,k.trans h3⟩
theorem TB.keepC {W:World}{p:Nat}{s:List UInt8}{k:Nat}{x:List UInt8}(h:TB W p s k x){S:Nat->Prop}(c:Chg S W W')(hS:¬S p):TB W' p s k x:=
 ⟨yaj h.lt c.size,(c.cell (p:=⟨p,0,none⟩) h.lt hS).trans h.c0,(c.cell (p:=⟨p,1,none⟩) h.lt hS).trans h.c1,(c.cell (p:=⟨p,2,none⟩) h.lt hS).trans h.c2,λo=>(c.frozen (p:=⟨p,o,none⟩) h.lt hS).trans (h.fr o)⟩
def GX (p:Nat)(r:Rs (LSt×Nat)):Rs (LSt×Nat):=match r with|.error f=>.error f|.ok (s,a)=>fI s (eI 6 (eU s a) (a:Int) 0 0) p
theorem yd {W:World}(H:TrIn W P B u1 u2 u3 u4 bs st aL nL loc g off m cap ts)(hp:Pr 0 [e] ts)(h0:(ts.getD 0 Tok.zero).sym=[45])(h2:2<=m)(r1:Rs (LSt×Nat))(hG:RsG st r1)
  (HC:∀W',Kept 0 0 W W'->Calls prog 75 #[.pointer (some ⟨P,0,none⟩),.slice aL nL cL,.slice (some ⟨g,off+3,none⟩) (m-1) (cap-1)] W' (TrO W' P B u1 u2 u3 u4 bs r1)):
  Calls prog 75 #[.pointer (some ⟨P,0,none⟩),.slice aL nL cL,.slice (some ⟨g,off,none⟩) m cap] W (TrO W P B u1 u2 u3 u4 bs (GX (ts.getD 0 Tok.zero).pos r1)):=by
 have HO1:Hid _:=fB W g off m cap ts H.tk H.m5 [43] [45]
 have HO2:Hid _:=fB W g off m cap ts H.tk H.m5 [42] [47]
 rw[j8 hp] at HO1 HO2
 have c0:=H.tk.c0 0 xaa
 have c1:=H.tk.c1 0 xaa
 have c2:=H.tk.c2 0 xaa
 have m5:=H.m5
 have mc:=H.mc
 have HF:Hid _:=H.ws.far
 have HC':Hid _:=HC
 have HG:Hid _:=hG
 generalize ts.getD 0 Tok.zero=t at*
 clear H hp HC hG
 obtain⟨sy,ps,tx⟩:=t
 simp only at h0
 subst h0
 simp only[Nat.zero_mul,Nat.add_zero] at c0 c1 c2
 obtain⟨r,hr⟩:∃r,r=GX ps r1:=⟨_,rfl⟩
 simp only
 rw[<-hr]
 have HR:Hid _:=hr
 clear hr
 go_enter func75,ntmps75
 go_upto_region 3 with (go_at_call 107;refine yai HO1.out ?_;rintro e w2 ⟨rfl,hw⟩;obtain rfl:=hw.symm)
 go_upto_region 15 with (go_at_call 107;refine yai HO2.out ?_;rintro e w2 ⟨rfl,hw⟩;obtain rfl:=hw.symm)
 go_upto_region 16 with fail
 change Code.wp _ _ _ _ (W.alloc (.cells #[eE [45],.int .i64 (ps:Int),eE tx] 74))
 have HB:Hid (TB (W.alloc (.cells #[eE [45],.int .i64 (ps:Int),eE tx] 74)) W.heap.size [45] ps tx):=gH W [45] ps tx
 have HK:Hid _:=ez 0 0 W (.cells #[eE [45],.int .i64 (ps:Int),eE tx] 74)
 generalize W.alloc (.cells #[eE [45],.int .i64 (ps:Int),eE tx] 74)=W1 at HB HK ⊢
 generalize W.heap.size=bx at HB HF ⊢
 have HC1:Hid _:=HC'.out W1 HK.out
 have b0:=HB.out.c0
 clear c0 c1 c2 HO1 HO2 HC'
 rcases r1 with⟨c,p⟩|⟨s,a⟩
 ·exact xex
 ·obtain⟨w,ha⟩:=HG.out s a rfl
  go_upto_region 18 with (go_at_call 75;refine yai HC1.out ?_;rintro e w2 ⟨rfl,v1,v2,v3,v4,hW2,hM2⟩)
  have HB2:Hid _:=HB.out.keepC hM2.chg HF.out
  obtain⟨gv,cv,e2,hgv,cl⟩:=hW2.lenc ha
  have cp:=hW2.c1
  subst e2
  have HPt:Hid (∀W',Kept 0 0 w2 W'->Calls prog 78 #[.pointer (some ⟨P,0,none⟩),(eI 6 (eU s a) (a:Int) 0 0).agg,.int .i64 (ps:Int)] W' λe W''=>(∃x:Int,e=.returned (.int .i64 x))/\Hid (TrO W P B u1 u2 u3 u4 bs r e W'')):=λW' kk=>yai (jV (hW2.keep kk) w.g (eI 6 (eU s a) (a:Int) 0 0) (w.g.lenB ha) yag ps) (λe W'' t=>⟨t.ret,by
   show TrO W P B u1 u2 u3 u4 bs r e W''
   rw[HR.out]
   exact TrO.back HK.out (TrO.after (hM2.keep kk) t)⟩)
  have b1:=HB2.out.c1
  have hN:=w.g.n
  generalize eU s a=l at cl HPt
  generalize s.vs.length=N at*
  clear hW2 hM2 HC1 HB HR HG w b0
  go_upto_region 20 with fail
  exact xco
def Bn (o:Tok)(r1 r2:Rs (LSt×Nat)):Rs (LSt×Nat):=match r1 with
 |.error f=>.error f
 |.ok (_,x)=>match r2 with
  |.error f=>.error f
  |.ok (s2,y)=>m6 s2 o x y
theorem ux {o:Tok}{f:Aq}(h:iY st [a,b] o.pos=.error f):m6 st o a b=.error f:=by unfold m6;rw[h]
theorem wO {s2:LSt}{o:Tok}{f:List Nat}(h:iY st [a,b] o.pos=.ok (s2,f)):m6 st o a b=fI s2 (eI (lq o.sym) (eU s2 (f.getD 0 0)) (f.getD 0 0:Nat) (f.getD 1 0:Nat) 0) o.pos:=by unfold m6;rw[h]
theorem Bo {W:World}{M:Nat->Prop}(hf:¬M W.heap.size)(x y:Nat):XsR M (W.alloc (.cells #[.int .i64 (x:Int),.int .i64 (y:Int)] 3)) (some ⟨W.heap.size,0,none⟩) 2 [x,y]:=by
 refine⟨rfl,λ_=>⟨W.heap.size,0,rfl,hf,by simp,λk hk=>?_⟩⟩
 rcases (by omega:k=0\/k=1) with rfl|rfl
 ·(show(W.alloc _).cell? _=_;rw[yau];rfl)
 ·(show(W.alloc _).cell? _=_;rw[yau];rfl)
variable {W:World}(H:TrIn W P B u1 u2 u3 u4 bs st aL nL loc g off m cap ts)(k:Nat)(hk:k<m)(hk2:k+1<m)(r1 r2:Rs (LSt×Nat))(hG:RsG st r1)(hG2:∀s1 x,r1=.ok (s1,x)->RsG s1 r2)
  (HC1:Calls prog 75 #[.pointer (some ⟨P,0,none⟩),.slice aL nL cL,.slice (some ⟨g,off,none⟩) k cap] W (TrO W P B u1 u2 u3 u4 bs r1))
  (HC2:∀s1 x,r1=.ok (s1,x)->∀W' v1 v2 v3 v4,WS W' P B v1 v2 v3 v4 bs s1->Mv (Mst P u1 u2 u3 u4) W (Mst P v1 v2 v3 v4) W'->Calls prog 75 #[.pointer (some ⟨P,0,none⟩),.slice aL nL cL,.slice (some ⟨g,off+(k+1)*3,none⟩) (m-(k+1)) (cap-(k+1))] W' (TrO W' P B v1 v2 v3 v4 bs r2))
include H hk hk2 hG hG2 HC1 HC2
theorem ye (hop:opM [43] [45] ts=(k:Int)):
  Calls prog 75 #[.pointer (some ⟨P,0,none⟩),.slice aL nL cL,.slice (some ⟨g,off,none⟩) m cap] W (TrO W P B u1 u2 u3 u4 bs (Bn (ts.getD k Tok.zero) r1 r2)):=by
 have HO1:Hid _:=fB W g off m cap ts H.tk H.m5 [43] [45]
 have HO2:Hid _:=fB W g off m cap ts H.tk H.m5 [42] [47]
 rw[hop] at HO1
 clear HO2 hop
 have m5:=H.m5
 have mc:=H.mc
 have HTk:Hid (∀W' M',Mv (Mst P u1 u2 u3 u4) W M' W'->TkA W' g off m ts):=λW' M' kk=>H.tk.keepC kk.chg H.tg
 have HC1':Hid _:=HC1
 have HC2':Hid _:=HC2
 have HG:Hid _:=hG
 have HG2:Hid _:=hG2
 obtain⟨r,hr⟩:∃r,r=Bn (ts.getD k Tok.zero) r1 r2:=⟨_,rfl⟩
 rw[<-hr]
 have HR:Hid _:=hr
 clear hr H HC1 HC2 hG hG2
 go_enter func75,ntmps75
 have hk0:¬((k:Int)<0):=xaa
 have hk1:(0:Int)<=(k:Int):=xaa
 go_upto_region 5 with (go_at_call 107;refine yai HO1.out ?_;rintro e w2 ⟨rfl,hw⟩;obtain rfl:=hw.symm)
 exact xFF
theorem yg (hop1:opM [43] [45] ts=-1)(hop:opM [42] [47] ts=(k:Int)):
  Calls prog 75 #[.pointer (some ⟨P,0,none⟩),.slice aL nL cL,.slice (some ⟨g,off,none⟩) m cap] W (TrO W P B u1 u2 u3 u4 bs (Bn (ts.getD k Tok.zero) r1 r2)):=by
 have HO1:Hid _:=fB W g off m cap ts H.tk H.m5 [43] [45]
 have HO2:Hid _:=fB W g off m cap ts H.tk H.m5 [42] [47]
 rw[hop1] at HO1
 rw[hop] at HO2
 clear hop hop1
 have m5:=H.m5
 have mc:=H.mc
 have HTk:Hid (∀W' M',Mv (Mst P u1 u2 u3 u4) W M' W'->TkA W' g off m ts):=λW' M' kk=>H.tk.keepC kk.chg H.tg
 have HC1':Hid _:=HC1
 have HC2':Hid _:=HC2
 have HG:Hid _:=hG
 have HG2:Hid _:=hG2
 obtain⟨r,hr⟩:∃r,r=Bn (ts.getD k Tok.zero) r1 r2:=⟨_,rfl⟩
 rw[<-hr]
 have HR:Hid _:=hr
 clear hr H HC1 HC2 hG hG2
 go_enter func75,ntmps75
 have hk0:¬((k:Int)<0):=xaa
 have hk1:(0:Int)<=(k:Int):=xaa
 go_upto_region 3 with (go_at_call 107;refine yai HO1.out ?_;rintro e w2 ⟨rfl,hw⟩;obtain rfl:=hw.symm)
 go_upto_region 5 with (go_at_call 107;refine yai HO2.out ?_;rintro e w2 ⟨rfl,hw⟩;obtain rfl:=hw.symm)
 clear HO2
 exact xFF
end
section
open Go.RowKit Flt
variable {r:Rs (LSt×Nat)}
theorem qY {f:Nat}{st:LSt}{loc:Loc}{o:Tok}{a b:Ex}(h:eJ (f+1) st loc (.bin o a b)=some r):∃r1 r2,eJ f st loc a=some r1/\(∀s1 x,r1=.ok (s1,x)->eJ f s1 loc b=some r2)/\r=Bn o r1 r2:=by
 rw[eJ] at h
 cases h1:eJ f st loc a with
 |none=>rw[h1] at h;cases h
 |some r1=>
  rw[h1] at h
  rcases r1 with⟨c,p⟩|⟨s1,x⟩
  ·cases h
   exact⟨.error (c,p),.error (c,p),rfl,λ_ _ e=>(by cases e),rfl⟩
  ·simp only[iK] at h
   cases h2:eJ f s1 loc b with
   |none=>rw[h2] at h;cases h
   |some r2=>
    rw[h2] at h
    refine⟨.ok (s1,x),r2,rfl,λ_ _ e=>(by cases e;exact h2),?_⟩
    rcases r2 with⟨c,p⟩|⟨s2,y⟩
    ·cases h;rfl
    ·cases h;rfl
theorem Bp (ts us:List Tok)(o:Tok):(ts++o::us).getD ts.length Tok.zero=o:=by
 exact xdn
theorem ii {n:Nat}{es:List Ex}{ts:List Tok}(h:Pr n es ts):0<ts.length:=by
 induction h<;>first|assumption|(simp only[yak,yap];omega)
section
variable {f:Nat} {W:World} {P B:Nat} {u1 u2 u3 u4:Value} {bs:List Bc} {st:LSt} {aL:Option Addr} {nL cL:Nat} {loc:Loc} {g off m cap:Nat} {ts us:List Tok} {o:Tok} {a b:Ex} {r:Rs (LSt×Nat)}
theorem qZ (IH:TrC f)(H:TrIn W P B u1 u2 u3 u4 bs st aL nL loc g off m cap (ts++o::us)){n1 n2:Nat}(ha:Pr n1 [a] ts)(hb:Pr n2 [b] us)(h1:n1<=2)(h2:n2<=2){r1 r2:Rs (LSt×Nat)}(e1:eJ f st loc a=some r1)(e2:∀s1 x,r1=.ok (s1,x)->eJ f s1 loc b=some r2):
  RsG st r1/\(∀s1 x,r1=.ok (s1,x)->RsG s1 r2)/\
  Calls prog 75 #[.pointer (some ⟨P,0,none⟩),.slice aL nL cL,.slice (some ⟨g,off,none⟩) ts.length cap] W (TrO W P B u1 u2 u3 u4 bs r1)/\
  (∀s1 x,r1=.ok (s1,x)->∀W' v1 v2 v3 v4,WS W' P B v1 v2 v3 v4 bs s1->Mv (Mst P u1 u2 u3 u4) W (Mst P v1 v2 v3 v4) W'->Calls prog 75 #[.pointer (some ⟨P,0,none⟩),.slice aL nL cL,.slice (some ⟨g,off+(ts.length+1)*3,none⟩) (m-(ts.length+1)) (cap-(ts.length+1))] W' (TrO W' P B v1 v2 v3 v4 bs r2)):=by
 have hm:(ts++o::us).length=m:=H.tk.len
 rw[yak,yap] at hm
 have hmc:=H.mc
 have ea:EOK a:=iE ha (λt ht=>H.ti t (by simp[ht])) a xac
 have eb:EOK b:=iE hb (λt ht=>H.ti t (by simp[ht])) b xac
 have g1:RsG st r1:=fW f st loc a H.gd H.nm H.lo ea r1 e1
 refine⟨g1,λs1 x e=>?_,?_,λs1 x e W' v1 v2 v3 v4 hw hM=>?_⟩
 ·have w:=(g1 s1 x e).1
  exact fW f s1 loc b w.g (H.nm.gw w) (H.lo.le w.n) eb r2 (e2 s1 x e)
 ·have h:=H.sub H.ws (Gw.refl H.gd) (Mv.refl _ W) 0 ts.length xaa ts xac (cap':=cap) xaa
  rw[Nat.zero_mul,Nat.add_zero,Nat.sub_zero] at h
  exact IH W P B u1 u2 u3 u4 bs st aL nL cL loc g off ts.length cap ts h n1 a ha h1 r1 e1
 ·have h:=H.sub hw (g1 s1 x e).1 hM (ts.length+1) m yad us (by
   rw[List.drop_append,List.drop_of_length_le xaa,show ts.length+1-ts.length=1 by omega,List.nil_append,List.drop_succ_cons,List.drop_zero,yao xaa]) (cap':=cap-(ts.length+1)) xaa
  exact IH W' P B v1 v2 v3 v4 bs s1 aL nL cL loc g _ _ _ us h n2 b hb h2 r2 (e2 s1 x e)
theorem Bq (IH:TrC f)(H:TrIn W P B u1 u2 u3 u4 bs st aL nL loc g off m cap (ts++o::us))(ha:Pr 2 [a] ts)(ho:o.sym=[43]\/o.sym=[45])(hb:Pr 1 [b] us)(h:eJ (f+1) st loc (.bin o a b)=some r):
  Calls prog 75 #[.pointer (some ⟨P,0,none⟩),.slice aL nL cL,.slice (some ⟨g,off,none⟩) m cap] W (TrO W P B u1 u2 u3 u4 bs r):=by
 obtain⟨r1,r2,e1,e2,rfl⟩:=qY h
 obtain⟨p1,p2,p3,p4⟩:=qZ (cL:=cL) IH H ha hb xaa xaa e1 e2
 have hm:(ts++o::us).length=m:=H.tk.len
 rw[yak,yap] at hm
 have hl:=ii hb
 have t:=ye H ts.length xaa xaa r1 r2 p1 p2 p3 p4 (FT ha ho hb)
 rw[Bp] at t
 exact t
theorem Br (IH:TrC f)(H:TrIn W P B u1 u2 u3 u4 bs st aL nL loc g off m cap (ts++o::us))(ha:Pr 1 [a] ts)(ho:o.sym=[42]\/o.sym=[47])(hb:Pr 0 [b] us)(h:eJ (f+1) st loc (.bin o a b)=some r):
  Calls prog 75 #[.pointer (some ⟨P,0,none⟩),.slice aL nL cL,.slice (some ⟨g,off,none⟩) m cap] W (TrO W P B u1 u2 u3 u4 bs r):=by
 obtain⟨r1,r2,e1,e2,rfl⟩:=qY h
 obtain⟨p1,p2,p3,p4⟩:=qZ (cL:=cL) IH H ha hb xaa xaa e1 e2
 have hm:(ts++o::us).length=m:=H.tk.len
 rw[yak,yap] at hm
 have hl:=ii hb
 have t:=yg H ts.length xaa xaa r1 r2 p1 p2 p3 p4 (zN (Pr.mul ha ho hb)) (FU ha ho hb)
 rw[Bp] at t
 exact t
end
theorem yh {f:Nat}{st:LSt}{loc:Loc}{o:Tok}{a:Ex}(h:eJ (f+1) st loc (.neg o a)=some r):∃r1,eJ f st loc a=some r1/\r=GX o.pos r1:=by
 exact xdk
section
variable {f:Nat} {W:World} {P B:Nat} {u1 u2 u3 u4:Value} {bs:List Bc} {st:LSt} {aL:Option Addr} {nL cL:Nat} {loc:Loc} {g off m cap:Nat} {ts:List Tok} {o t:Tok} {a:Ex} {r:Rs (LSt×Nat)}
theorem yi (H:TrIn W P B u1 u2 u3 u4 bs st aL nL loc g off m cap [t])(ht:t.sym=f8)(h:eJ (f+1) st loc (.name t)=some r):
  Calls prog 75 #[.pointer (some ⟨P,0,none⟩),.slice aL nL cL,.slice (some ⟨g,off,none⟩) m cap] W (TrO W P B u1 u2 u3 u4 bs r):=by
 rw[eJ] at h
 have e:r=Bm st (fh st loc t):=(Option.some.inj h).symm
 have k:=vE (cL:=cL) H (Pr.name ht) ht H.tk.len.symm
 rw[e]
 exact k
theorem Bs (IH:TrC f)(H:TrIn W P B u1 u2 u3 u4 bs st aL nL loc g off m cap (o::ts))(ho:o.sym=[45])(ha:Pr 0 [a] ts)(h:eJ (f+1) st loc (.neg o a)=some r):
  Calls prog 75 #[.pointer (some ⟨P,0,none⟩),.slice aL nL cL,.slice (some ⟨g,off,none⟩) m cap] W (TrO W P B u1 u2 u3 u4 bs r):=by
 obtain⟨r1,e1,rfl⟩:=yh h
 have hm:(o::ts).length=m:=H.tk.len
 rw[yap] at hm
 have hl:=ii ha
 have hmc:=H.mc
 have ea:EOK a:=iE ha (λt ht=>H.ti t (by simp[ht])) a xac
 refine yd H (Pr.neg ho ha) ho xaa r1 (fW f st loc a H.gd H.nm H.lo ea r1 e1) (λW' k=>?_)
 have hs:=H.sub (H.ws.keep k) (Gw.refl H.gd) (Mv.of k) 1 m yad ts (by
  rw[List.drop_succ_cons,List.drop_zero,yao xaa]) (cap':=cap-1) xaa
 exact IH W' P B u1 u2 u3 u4 bs st aL nL cL loc g _ _ _ ts hs 0 a ha xaa r1 e1
theorem Bt {l q:Tok}(H:TrIn W P B u1 u2 u3 u4 bs st aL nL loc g off m cap (l::(ts++[q])))(hl:l.sym=[40])(ha:Pr 2 [a] ts)(hq:q.sym=[41])
  (IH:∀W',TrIn W' P B u1 u2 u3 u4 bs st aL nL loc g (off+3) (m-2) (cap-1) ts->Calls prog 75 #[.pointer (some ⟨P,0,none⟩),.slice aL nL cL,.slice (some ⟨g,off+3,none⟩) (m-2) (cap-1)] W' (TrO W' P B u1 u2 u3 u4 bs r)):
  Calls prog 75 #[.pointer (some ⟨P,0,none⟩),.slice aL nL cL,.slice (some ⟨g,off,none⟩) m cap] W (TrO W P B u1 u2 u3 u4 bs r):=by
 have hm:(l::(ts++[q])).length=m:=H.tk.len
 rw[yap,yak,List.length_singleton] at hm
 have hmc:=H.mc
 refine yc H (Pr.par hl ha hq) hl xaa r (λW' k=>?_)
 have hs:=H.sub (H.ws.keep k) (Gw.refl H.gd) (Mv.of k) 1 (m-1) xaa ts (by
  rw[List.drop_succ_cons,List.drop_zero,List.take_append_of_le_length xaa,yao xaa]) (cap':=cap-1) xaa
 rw[show m-1-1=m-2 by omega] at hs
 exact yai (IH W' hs) (λe W'' t=>TrO.back k t)
end
end
section
open Go.RowKit Flt
attribute [local go_sem] eD eB eA
variable {P B nL cL gr ns cp q o n0 c0:Nat} {u1 u2 u3 u4:Value} {bs:List Bc} {st:LSt} {aL:Option Addr}
def q7 (op:Int)(one:Bool)(p:Nat)(r:Rs (LSt×Nat)):Rs (LSt×Nat):=match r with|.error f=>.error f|.ok (s,a)=>fI s (eI op (if one then 1 else eU s a) (a:Int) 0 0) p
theorem yj {W:World}(h:WS W P B u1 u2 u3 u4 bs st)(kp:Nat)(kt:List UInt8)(hns:1<=ns)(hgr:gr<W.heap.size)(hS:W.cell? ⟨gr,0,none⟩=some (.slice (some ⟨q,o,none⟩) n0 c0))(r1:Rs (LSt×Nat))(hG:RsG st r1)
  (HC:∀W',Kept 0 0 W W'->Calls prog 75 #[.pointer (some ⟨P,0,none⟩),.slice aL nL cL,.slice (some ⟨q,o,none⟩) n0 c0] W' (TrO W' P B u1 u2 u3 u4 bs r1)):
  Calls prog 113 #[.pointer (some ⟨P,0,none⟩),.slice aL nL cL,ik ⟨[101,120,112],kp,kt⟩,.slice (some ⟨gr,0,none⟩) ns cp] W (TrO W P B u1 u2 u3 u4 bs (q7 13 false kp r1)):=by
 have HB:Hid (TB (W.alloc (.cells #[eE [101,120,112],.int .i64 (kp:Int),eE kt] 74)) W.heap.size [101,120,112] kp kt):=gH W [101,120,112] kp kt
 have HK:Hid _:=ez 0 0 W (.cells #[eE [101,120,112],.int .i64 (kp:Int),eE kt] 74)
 have HF:Hid _:=h.far
 have s0:(W.alloc (.cells #[eE [101,120,112],.int .i64 (kp:Int),eE kt] 74)).cell? ⟨gr,0,none⟩=some (.slice (some ⟨q,o,none⟩) n0 c0):=(HK.out.cell (p:=⟨gr,0,none⟩) hgr xaa).trans hS
 have HC':Hid _:=HC
 have HG:Hid _:=hG
 obtain⟨r,hr⟩:∃r,r=q7 13 false kp r1:=⟨_,rfl⟩
 rw[<-hr]
 have HR:Hid _:=hr
 clear hr h hG HC hS
 unfold ik
 simp only
 go_enter func113,ntmps113
 go_upto_region 2 with fail
 change Code.wp _ _ _ _ (W.alloc (.cells #[eE [101,120,112],.int .i64 (kp:Int),eE kt] 74))
 generalize W.alloc (.cells #[eE [101,120,112],.int .i64 (kp:Int),eE kt] 74)=W1 at HB HK s0 ⊢
 generalize W.heap.size=bx at HB HF ⊢
 have HC1:Hid _:=HC'.out W1 HK.out
 have b0:=HB.out.c0
 clear HC'
 rcases r1 with⟨c,p⟩|⟨s,a⟩
 ·exact xex
 ·obtain⟨w,ha⟩:=HG.out s a rfl
  have ha0:¬((a:Int)<0):=xaa
  go_upto_region 7 with (go_at_call 75;refine yai HC1.out ?_;rintro e w2 ⟨rfl,v1,v2,v3,v4,hW2,hM2⟩)
  have HB2:Hid _:=HB.out.keepC hM2.chg HF.out
  obtain⟨gv,cv,e2,hgv,cl⟩:=hW2.lenc ha
  have cpp:=hW2.c1
  subst e2
  have HPt:Hid (∀W',Kept 0 0 w2 W'->Calls prog 78 #[.pointer (some ⟨P,0,none⟩),(eI 13 (eU s a) (a:Int) 0 0).agg,.int .i64 (kp:Int)] W' λe W''=>(∃x:Int,e=.returned (.int .i64 x))/\Hid (TrO W P B u1 u2 u3 u4 bs r e W'')):=λW' kk=>yai (jV (hW2.keep kk) w.g (eI 13 (eU s a) (a:Int) 0 0) (w.g.lenB ha) yag kp) (λe W'' t=>⟨t.ret,by
   show TrO W P B u1 u2 u3 u4 bs r e W''
   rw[HR.out]
   exact TrO.back HK.out (TrO.after (hM2.keep kk) t)⟩)
  have d0:=HB2.out.c0
  have d1:=HB2.out.c1
  have hN:=w.g.n
  generalize eU s a=l at cl HPt
  generalize s.vs.length=N at*
  clear hW2 hM2 HC1 HB HR HG w b0 s0
  go_upto_region 11 with fail
  exact xco
theorem yk {W:World}(h:WS W P B u1 u2 u3 u4 bs st)(kp:Nat)(kt:List UInt8)(hns:1<=ns)(hgr:gr<W.heap.size)(hS:W.cell? ⟨gr,0,none⟩=some (.slice (some ⟨q,o,none⟩) n0 c0))(r1:Rs (LSt×Nat))(hG:RsG st r1)
  (HC:∀W',Kept 0 0 W W'->Calls prog 75 #[.pointer (some ⟨P,0,none⟩),.slice aL nL cL,.slice (some ⟨q,o,none⟩) n0 c0] W' (TrO W' P B u1 u2 u3 u4 bs r1)):
  Calls prog 113 #[.pointer (some ⟨P,0,none⟩),.slice aL nL cL,ik ⟨[115,117,109],kp,kt⟩,.slice (some ⟨gr,0,none⟩) ns cp] W (TrO W P B u1 u2 u3 u4 bs (q7 9 true kp r1)):=by
 have HB:Hid (TB (W.alloc (.cells #[eE [115,117,109],.int .i64 (kp:Int),eE kt] 74)) W.heap.size [115,117,109] kp kt):=gH W [115,117,109] kp kt
 have HK:Hid _:=ez 0 0 W (.cells #[eE [115,117,109],.int .i64 (kp:Int),eE kt] 74)
 have HF:Hid _:=h.far
 have s0:(W.alloc (.cells #[eE [115,117,109],.int .i64 (kp:Int),eE kt] 74)).cell? ⟨gr,0,none⟩=some (.slice (some ⟨q,o,none⟩) n0 c0):=(HK.out.cell (p:=⟨gr,0,none⟩) hgr xaa).trans hS
 have HC':Hid _:=HC
 have HG:Hid _:=hG
 obtain⟨r,hr⟩:∃r,r=q7 9 true kp r1:=⟨_,rfl⟩
 rw[<-hr]
 have HR:Hid _:=hr
 clear hr h hG HC hS
 unfold ik
 simp only
 go_enter func113,ntmps113
 go_upto_region 2 with fail
 change Code.wp _ _ _ _ (W.alloc (.cells #[eE [115,117,109],.int .i64 (kp:Int),eE kt] 74))
 generalize W.alloc (.cells #[eE [115,117,109],.int .i64 (kp:Int),eE kt] 74)=W1 at HB HK s0 ⊢
 generalize W.heap.size=bx at HB HF ⊢
 have HC1:Hid _:=HC'.out W1 HK.out
 have b0:=HB.out.c0
 clear HC'
 rcases r1 with⟨c,p⟩|⟨s,a⟩
 ·exact xex
 ·obtain⟨w,ha⟩:=HG.out s a rfl
  have ha0:¬((a:Int)<0):=xaa
  go_upto_region 7 with (go_at_call 75;refine yai HC1.out ?_;rintro e w2 ⟨rfl,v1,v2,v3,v4,hW2,hM2⟩)
  have HB2:Hid _:=HB.out.keepC hM2.chg HF.out
  obtain⟨gv,cv,e2,hgv,cl⟩:=hW2.lenc ha
  have cpp:=hW2.c1
  subst e2
  have HPt:Hid (∀W',Kept 0 0 w2 W'->Calls prog 78 #[.pointer (some ⟨P,0,none⟩),(eI 9 1 (a:Int) 0 0).agg,.int .i64 (kp:Int)] W' λe W''=>(∃x:Int,e=.returned (.int .i64 x))/\Hid (TrO W P B u1 u2 u3 u4 bs r e W'')):=λW' kk=>yai (jV (hW2.keep kk) w.g (eI 9 1 (a:Int) 0 0) ⟨by show(1:Int)<=1;decide,by show(1:Int)<=1000;decide⟩ yag kp) (λe W'' t=>⟨t.ret,by
   show TrO W P B u1 u2 u3 u4 bs r e W''
   rw[HR.out]
   exact TrO.back HK.out (TrO.after (hM2.keep kk) t)⟩)
  have d0:=HB2.out.c0
  have d1:=HB2.out.c1
  have hN:=w.g.n
  generalize eU s a=l at cl HPt
  generalize s.vs.length=N at*
  clear hW2 hM2 HC1 HB HR HG w b0 s0
  go_upto_region 13 with fail
  exact xco
def Ed (r1 r2:Rs (LSt×Nat)):Rs (LSt×Nat):=match r1 with|.error f=>.error f|.ok _=>r2
theorem pX {kw:List UInt8}(hkw:kw=[102,105,108,108]\/kw=[112,105,99,107]\/kw=[112,117,116]){W:World}(h:WS W P B u1 u2 u3 u4 bs st)(kp:Nat)(kt:List UInt8)(hns:1<=ns)(hgr:gr<W.heap.size)(hS:W.cell? ⟨gr,0,none⟩=some (.slice (some ⟨q,o,none⟩) n0 c0))(r1 r2:Rs (LSt×Nat))(hG:RsG st r1)
  (HC:∀W',Kept 0 0 W W'->Calls prog 75 #[.pointer (some ⟨P,0,none⟩),.slice aL nL cL,.slice (some ⟨q,o,none⟩) n0 c0] W' (TrO W' P B u1 u2 u3 u4 bs r1))
  (HQ:∀s a,r1=.ok (s,a)->∀W' v1 v2 v3 v4,WS W' P B v1 v2 v3 v4 bs s->Mv (Mst P u1 u2 u3 u4) W (Mst P v1 v2 v3 v4) W'->Calls prog 127 #[.pointer (some ⟨P,0,none⟩),ik ⟨kw,kp,kt⟩,.int .i64 (a:Int),.slice (some ⟨gr,0,none⟩) ns cp] W' (TrO W' P B v1 v2 v3 v4 bs r2)):
  Calls prog 113 #[.pointer (some ⟨P,0,none⟩),.slice aL nL cL,ik ⟨kw,kp,kt⟩,.slice (some ⟨gr,0,none⟩) ns cp] W (TrO W P B u1 u2 u3 u4 bs (Ed r1 r2)):=by
 have HB:Hid (TB (W.alloc (.cells #[eE kw,.int .i64 (kp:Int),eE kt] 74)) W.heap.size kw kp kt):=gH W kw kp kt
 have HK:Hid _:=ez 0 0 W (.cells #[eE kw,.int .i64 (kp:Int),eE kt] 74)
 have HF:Hid _:=h.far
 have s0:(W.alloc (.cells #[eE kw,.int .i64 (kp:Int),eE kt] 74)).cell? ⟨gr,0,none⟩=some (.slice (some ⟨q,o,none⟩) n0 c0):=(HK.out.cell (p:=⟨gr,0,none⟩) hgr xaa).trans hS
 have HC':Hid _:=HC
 have HQ':Hid _:=HQ
 have HG:Hid _:=hG
 obtain⟨r,hr⟩:∃r,r=Ed r1 r2:=⟨_,rfl⟩
 rw[<-hr]
 have HR:Hid _:=hr
 clear hr h hG HC hS HQ
 unfold ik at HQ' ⊢
 simp only at HQ' ⊢
 obtain⟨W1,hW1⟩:∃W1,Hid (W.alloc (.cells #[eE kw,.int .i64 (kp:Int),eE kt] 74)=W1):=⟨_,rfl⟩
 rw[hW1.out] at HB HK s0
 rcases hkw with rfl|rfl|rfl
 all_goals
  go_enter func113,ntmps113
  go_upto_region 2 with fail
  change Code.wp _ _ _ _ (W.alloc (.cells #[eE _,.int .i64 (kp:Int),eE kt] 74))
  rw[hW1.out]
  clear hW1
  generalize W.heap.size=bx at HB HF ⊢
  have HC1:Hid _:=HC'.out W1 HK.out
  have b0:=HB.out.c0
  clear HC'
  rcases r1 with⟨c,p⟩|⟨s,a⟩
  ·go_wp2_with (go_at_call 75;refine yai HC1.out ?_;rintro e w2 ⟨rfl,hT⟩)
   go_ret
   rw[HR.out]
   exact TrO.back HK.out ⟨rfl,hT⟩
  ·obtain⟨w,ha⟩:=HG.out s a rfl
   have ha0:¬((a:Int)<0):=xaa
   go_upto_region 7 with (go_at_call 75;refine yai HC1.out ?_;rintro e w2 ⟨rfl,v1,v2,v3,v4,hW2,hM2⟩)
   have HB2:Hid _:=HB.out.keepC hM2.chg HF.out
   obtain⟨gv,cv,e2,hgv,cl⟩:=hW2.lenc ha
   have cpp:=hW2.c1
   have HM:Hid _:=(Mv.of HK.out).trans hM2
   have HP1:Hid _:=HQ'.out s a rfl w2 v1 v2 v3 v4 hW2 HM.out
   have HP2:Hid _:=yai HP1.out (λe W'' t=>(⟨TrO.ret t,by
    show TrO W P B u1 u2 u3 u4 bs r e W''
    rw[HR.out]
    exact TrO.after HM.out t⟩:(∃x:Int,e=.returned (.int .i64 x))/\Hid (TrO W P B u1 u2 u3 u4 bs r e W'')))
   subst e2
   have d0:=HB2.out.c0
   have d1:=HB2.out.c1
   have d2:=HB2.out.c2
   have hN:=w.g.n
   generalize eU s a=l at cl
   generalize s.vs.length=N at*
   clear hW2 hM2 HC1 HB HR HG w b0 s0 HQ' HP1 HM
   go_wp2_with (go_at_call 127;refine yai HP2.out ?_;rintro e w4 ⟨⟨x,rfl⟩,hT⟩)
   go_ret
   exact hT.out
theorem ju {W:World}{loc:Loc}{g off m cap:Nat}{ts:List Tok}(H:TrIn W P B u1 u2 u3 u4 bs st aL nL loc g off m cap ts){e:Ex}(hp:Pr 0 [e] ts)(h1:((ts.getD 0 Tok.zero).sym==[45])=false)(h3:((ts.getD 0 Tok.zero).sym==[105,110,116])=false)(h4:((ts.getD 0 Tok.zero).sym==[100,101,99])=false)(h5:((ts.getD 0 Tok.zero).sym==[40])=false)(h6:((ts.getD 0 Tok.zero).sym==[110,97,109,101])=false)(h2:4<=m)(us:List Tok)(hu:us=(ts.drop 2).take (m-1-2))(hne:(spQ us (m-3)).cur≠[])(r:Rs (LSt×Nat))
  (HC:∀W' aS cS,Kept 0 0 W W'->SgR W' g W.heap.size aS (fx us)->Calls prog 113 #[.pointer (some ⟨P,0,none⟩),.slice aL nL cL,ik (ts.getD 0 Tok.zero),.slice aS (fx us).length cS] W' (TrO W' P B u1 u2 u3 u4 bs r)):
  Calls prog 75 #[.pointer (some ⟨P,0,none⟩),.slice aL nL cL,.slice (some ⟨g,off,none⟩) m cap] W (TrO W P B u1 u2 u3 u4 bs r):=by
 have HO1:Hid _:=fB W g off m cap ts H.tk H.m5 [43] [45]
 have HO2:Hid _:=fB W g off m cap ts H.tk H.m5 [42] [47]
 rw[j8 hp] at HO1 HO2
 have c0:=H.tk.c0 0 xaa
 have c1:=H.tk.c1 0 xaa
 have c2:=H.tk.c2 0 xaa
 have m5:=H.m5
 have mc:=H.mc
 have HSp:Hid (∀W',Kept 0 0 W W'->_):=λW' kk=>wv W' g (off+6) (m-3) (cap-2) us (by
  have t:=(H.tk.keep kk).in_ 2 (m-1) us hu xaa
  rw[show m-1-2=m-3 by omega] at t
  exact t) xaa xaa xaa hne
 have HC':Hid _:=HC
 generalize ts.getD 0 Tok.zero=t at*
 clear H hp HC hne hu
 obtain⟨sy,ps,tx⟩:=t
 simp only at h1 h3 h4 h5 h6
 simp only[Nat.zero_mul,Nat.add_zero] at c0 c1 c2
 go_enter func75,ntmps75
 go_upto_region 3 with (go_at_call 107;refine yai HO1.out ?_;rintro e w2 ⟨rfl,hw⟩;obtain rfl:=hw.symm)
 go_upto_region 15 with (go_at_call 107;refine yai HO2.out ?_;rintro e w2 ⟨rfl,hw⟩;obtain rfl:=hw.symm)
 go_upto_region 16 with fail
 change Code.wp _ _ _ _ (W.alloc (.cells #[eE sy,.int .i64 (ps:Int),eE tx] 74))
 have HB:Hid (TB (W.alloc (.cells #[eE sy,.int .i64 (ps:Int),eE tx] 74)) W.heap.size sy ps tx):=gH W sy ps tx
 have HK:Hid _:=ez 0 0 W (.cells #[eE sy,.int .i64 (ps:Int),eE tx] 74)
 generalize W.alloc (.cells #[eE sy,.int .i64 (ps:Int),eE tx] 74)=W1 at HB HK ⊢
 have HZ:Hid (W.heap.size<=W1.heap.size):=HK.out.size
 generalize hbx:W.heap.size=bx at HB ⊢
 have HX:Hid _:=hbx
 clear hbx
 obtain⟨b0,b1,b2⟩:W1.cell? ⟨bx,0,none⟩=some (eE sy)/\W1.cell? ⟨bx,1,none⟩=some (.int .i64 (ps:Int))/\W1.cell? ⟨bx,2,none⟩=some (eE tx):=⟨HB.out.c0,HB.out.c1,HB.out.c2⟩
 have HS1:Hid _:=HSp.out W1 HK.out
 clear c0 c1 c2 HO1 HO2 HSp
 generalize (fx us).length=nS at HS1 HC' ⊢
 go_upto_region 29 with (go_at_call 111;refine yai HS1.out ?_;rintro e w2 ⟨aS,cS,rfl,hSg,k2⟩)
 have HB2:Hid _:=HB.out.keep k2
 have HSg:Hid (SgR w2 g W.heap.size aS (fx us)):=⟨λhh=>by
  obtain⟨gr,q1,q2,q3⟩:=hSg.at_ hh
  exact⟨gr,q1,yan HZ.out q2,q3⟩⟩
 have HC1:Hid _:=yai (HC'.out w2 aS cS (HK.out.trans k2) HSg.out) (λe W'' t=>(⟨TrO.ret t,TrO.back (HK.out.trans k2) t⟩:(∃x:Int,e=.returned (.int .i64 x))/\Hid (TrO W P B u1 u2 u3 u4 bs r e W'')))
 unfold ik at HC1
 simp only at HC1
 clear b0 b1 b2 HB hSg HC' HS1 HSg
 have b0:=HB2.out.c0
 have b1:=HB2.out.c1
 have b2:=HB2.out.c2
 clear HB2 k2
 go_wp2_with (go_at_call 113;refine yai HC1.out ?_;rintro e w4 ⟨⟨x,rfl⟩,hT⟩)
 go_ret
 exact hT.out
end
section
open Go.RowKit Flt
variable {f:Nat} {loc:Loc} {st:LSt} {k n:Tok} {a:Ex} {r:Rs (LSt×Nat)}
theorem vF (h:eJ (f+1) st loc (.key1 k a)=some r):∃r1,eJ f st loc a=some r1/\r=(if k.sym=tG then q7 13 false k.pos r1 else q7 9 true k.pos r1):=by
 rw[eJ] at h
 cases h1:eJ f st loc a with
 |none=>rw[h1] at h;cases h
 |some r1=>
  rw[h1] at h
  rcases r1 with⟨c,p⟩|⟨s1,x⟩
  ·cases h;refine⟨_,rfl,?_⟩;split<;>rfl
  ·cases h;exact⟨_,rfl,rfl⟩
theorem Bu {ts:List Tok}(h:cm 0 ts=some 0)(n:Nat)(hn:ts.length<=n):(spQ ts n).cur=ts:=by
 unfold spQ
 rw[yao hn,lh ts 0 0 [] [] h,List.nil_append]
section
variable {f:Nat} {W:World} {P B:Nat} {u1 u2 u3 u4:Value} {bs:List Bc} {st:LSt} {aL:Option Addr} {nL cL:Nat} {loc:Loc} {g off m cap:Nat} {ts:List Tok} {a:Ex} {r:Rs (LSt×Nat)}
theorem yl {k l q:Tok}(IH:TrC f)(H:TrIn W P B u1 u2 u3 u4 bs st aL nL loc g off m cap (k::l::(ts++[q])))(hk:k.sym=tG\/k.sym=zL)(hl:l.sym=[40])(ha:Pr 2 [a] ts)(hq:q.sym=[41])(h:eJ (f+1) st loc (.key1 k a)=some r):
  Calls prog 75 #[.pointer (some ⟨P,0,none⟩),.slice aL nL cL,.slice (some ⟨g,off,none⟩) m cap] W (TrO W P B u1 u2 u3 u4 bs r):=by
 obtain⟨r1,e1,rfl⟩:=vF h
 have hm:(k::l::(ts++[q])).length=m:=H.tk.len
 simp only[yap,yak,List.length_nil] at hm
 have hp:=ii ha
 have hcm:=iV ha yad
 have hmc:=H.mc
 have hne:ts≠[]:=λc=>by rw[c] at hp;simp at hp
 have ea:EOK a:=iE ha (λt ht=>H.ti t (by simp[ht])) a xac
 have hu:ts=((k::l::(ts++[q])).drop 2).take (m-1-2):=by
  exact xgv
 have t1:∀x:List UInt8,x≠tG->x≠zL->(k.sym==x)=false:=λx h1 h2=>by
  rw[beq_eq_false_iff_ne]
  rintro rfl
  exact hk.elim h1 h2
 refine ju H (Pr.key1 hk hl ha hq) (t1 _ xab xab) (t1 _ xab xab) (t1 _ xab xab) (t1 _ xab xab) (t1 _ xab xab) xaa ts hu (by rw[Bu hcm _ xaa];exact hne) _ (λW' aS cS kk hS=>?_)
 rw[FV hne hcm] at hS ⊢
 obtain⟨gr,rfl,_,hgr,hS2⟩:=hS.at_ xac
 obtain⟨o,c,c1,c2,c3⟩:=hS2 0 xac
 have HC:∀W'',Kept 0 0 W' W''->Calls prog 75 #[.pointer (some ⟨P,0,none⟩),.slice aL nL cL,.slice (some ⟨g,o,none⟩) ts.length c] W'' (TrO W'' P B u1 u2 u3 u4 bs r1):=λW'' k2=>
  IH W'' P B u1 u2 u3 u4 bs st aL nL cL loc g o ts.length c ts ⟨H.ws.keep (kk.trans k2),H.gd,H.nm,H.lc.keep (kk.trans k2),H.ln,H.lo,c2.keep k2,H.tg,by have:=H.m5;omega,c3,λt ht=>H.ti t (by simp[ht]),λt ht=>H.tn t (by simp[ht])⟩ 2 a ha yad r1 e1
 have hG:=fW f st loc a H.gd H.nm H.lo ea r1 e1
 obtain⟨ks,kp,kt⟩:=k
 rcases hk with hk|hk
 ·simp only at hk
  subst hk
  rw[if_pos rfl]
  exact yj (H.ws.keep kk) kp kt xac hgr c1 r1 hG HC
 ·simp only at hk
  subst hk
  rw[if_neg (show ¬(zL=tG) by decide)]
  exact yk (H.ws.keep kk) kp kt xac hgr c1 r1 hG HC
end
theorem WS.far2 {W:World}{P B:Nat}{u1 u2 u3 u4:Value}{bs:List Bc}(h:WS W P B u1 u2 u3 u4 bs st){b:Nat}(hb:W.heap.size<=b):¬Mst P u1 u2 u3 u4 b:=by
 exact xgg
def Bv (k n:Tok)(r1:Rs (LSt×Nat)):Rs (LSt×Nat):=match r1 with|.error f=>.error f|.ok (s,a)=>jS s k a n
theorem vG (h:eJ (f+1) st loc (.keyN k a n)=some r):∃r1,eJ f st loc a=some r1/\r=Ed r1 (Bv k n r1):=by
 exact xdk
theorem l8 {us:List Tok}{X:List (List Tok)}{y:List Tok}(h0:us≠[])(h:fx us=X++[y])(n:Nat)(hn:us.length<=n):(spQ us n).cur=y:=by
 unfold fx at h
 rw[if_neg h0] at h
 unfold spQ
 rw[yao hn]
 have:=congrArg List.getLast? h
 simpa using this
section
variable {f:Nat} {W:World} {P B:Nat} {u1 u2 u3 u4:Value} {bs:List Bc} {st:LSt} {aL:Option Addr} {nL cL:Nat} {loc:Loc} {g off m cap:Nat} {ts:List Tok} {a:Ex} {r:Rs (LSt×Nat)}
theorem ym {k l c n q:Tok}(IH:TrC f)(H:TrIn W P B u1 u2 u3 u4 bs st aL nL loc g off m cap (k::l::(ts++[c,n,q])))(hk:k.sym=qE\/k.sym=mW)(hl:l.sym=[40])(ha:Pr 2 [a] ts)(hc:c.sym=[44])(hn:n.sym=gm)(hq:q.sym=[41])(h:eJ (f+1) st loc (.keyN k a n)=some r):
  Calls prog 75 #[.pointer (some ⟨P,0,none⟩),.slice aL nL cL,.slice (some ⟨g,off,none⟩) m cap] W (TrO W P B u1 u2 u3 u4 bs r):=by
 obtain⟨r1,e1,rfl⟩:=vG h
 have hm:(k::l::(ts++[c,n,q])).length=m:=H.tk.len
 simp only[yap,yak,List.length_nil] at hm
 have hp:=ii ha
 have hcm:=iV ha yad
 have hmc:=H.mc
 have ea:EOK a:=iE ha (λt ht=>H.ti t (by simp[ht])) a xac
 have hD:Dgs n.text:=H.ti n xac hn
 have hcn:cm 0 [n]=some 0:=pB (by rw[hn];decide) (by rw[hn];decide) (by rw[hn];decide)
 have hsp:fx (ts++c::[n])=[ts,[n]]:=vf hcm hc hcn
 have hu:ts++c::[n]=((k::l::(ts++[c,n,q])).drop 2).take (m-1-2):=by
  exact xfu
 have t1:∀x:List UInt8,x≠qE->x≠mW->(k.sym==x)=false:=λx h1 h2=>by
  rw[beq_eq_false_iff_ne]
  rintro rfl
  exact hk.elim h1 h2
 refine ju H (Pr.keyN hk hl ha hc hn hq) (t1 _ xab xab) (t1 _ xab xab) (t1 _ xab xab) (t1 _ xab xab) (t1 _ xab xab) xaa (ts++c::[n]) hu (by rw[l8 (X:=[ts]) (y:=[n]) xac hsp _ yaf];simp) _ (λW' aS cS kk hS=>?_)
 rw[hsp] at hS ⊢
 obtain⟨gr,rfl,hlo,hgr,hS2⟩:=hS.at_ xac
 obtain⟨o,c0,c1,c2,c3⟩:=hS2 0 xac
 obtain⟨o',c0',c1',c2',c3'⟩:=hS2 1 xac
 have HC:∀W'',Kept 0 0 W' W''->Calls prog 75 #[.pointer (some ⟨P,0,none⟩),.slice aL nL cL,.slice (some ⟨g,o,none⟩) ts.length c0] W'' (TrO W'' P B u1 u2 u3 u4 bs r1):=λW'' k2=>
  IH W'' P B u1 u2 u3 u4 bs st aL nL cL loc g o ts.length c0 ts ⟨H.ws.keep (kk.trans k2),H.gd,H.nm,H.lc.keep (kk.trans k2),H.ln,H.lo,c2.keep k2,H.tg,by have:=H.m5;omega,c3,λt ht=>H.ti t (by simp[ht]),λt ht=>H.tn t (by simp[ht])⟩ 2 a ha yad r1 e1
 have hG:=fW f st loc a H.gd H.nm H.lo ea r1 e1
 have hnM:¬Mst P u1 u2 u3 u4 gr:=H.ws.far2 hlo
 have HQ:∀s x,r1=.ok (s,x)->∀W'' v1 v2 v3 v4,WS W'' P B v1 v2 v3 v4 bs s->Mv (Mst P u1 u2 u3 u4) W' (Mst P v1 v2 v3 v4) W''->Calls prog 127 #[.pointer (some ⟨P,0,none⟩),ik k,.int .i64 (x:Int),.slice (some ⟨gr,0,none⟩) 2 cS] W'' (TrO W'' P B v1 v2 v3 v4 bs (Bv k n r1)):=λs x e W'' v1 v2 v3 v4 hw hM=>by
  obtain⟨w,hx⟩:=hG s x e
  subst e
  exact AH hw w.g k hk x hx n hD yad ⟨yaj hgr hM.chg.size,(hM.chg.cell (p:=⟨gr,1,none⟩) hgr hnM).trans c1',c2'.keepC hM.chg H.tg⟩
 obtain⟨ks,kp,kt⟩:=k
 rcases hk with hk|hk
 ·simp only at hk
  subst hk
  exact pX (.inl rfl) (H.ws.keep kk) kp kt xac hgr c1 r1 _ hG HC HQ
 ·simp only at hk
  subst hk
  exact pX (.inr (.inl rfl)) (H.ws.keep kk) kp kt xac hgr c1 r1 _ hG HC HQ
end
def wQ (k i n:Tok)(r1:Rs (LSt×Nat)):Rs (LSt×Nat):=match r1 with|.error f=>.error f|.ok (s,a)=>jT s k a i n
theorem yn {i:Tok}(h:eJ (f+1) st loc (.put k a i n)=some r):∃r1,eJ f st loc a=some r1/\r=Ed r1 (wQ k i n r1):=by
 exact xdk
section
variable {f:Nat} {W:World} {P B:Nat} {u1 u2 u3 u4:Value} {bs:List Bc} {st:LSt} {aL:Option Addr} {nL cL:Nat} {loc:Loc} {g off m cap:Nat} {ts:List Tok} {a:Ex} {r:Rs (LSt×Nat)}
theorem Bw {k l c i d n q:Tok}(IH:TrC f)(H:TrIn W P B u1 u2 u3 u4 bs st aL nL loc g off m cap (k::l::(ts++[c,i,d,n,q])))(hk:k.sym=xM)(hl:l.sym=[40])(ha:Pr 2 [a] ts)(hc:c.sym=[44])(hi:i.sym=gm)(hd:d.sym=[44])(hn:n.sym=gm)(hq:q.sym=[41])(h:eJ (f+1) st loc (.put k a i n)=some r):
  Calls prog 75 #[.pointer (some ⟨P,0,none⟩),.slice aL nL cL,.slice (some ⟨g,off,none⟩) m cap] W (TrO W P B u1 u2 u3 u4 bs r):=by
 obtain⟨r1,e1,rfl⟩:=yn h
 have hm:(k::l::(ts++[c,i,d,n,q])).length=m:=H.tk.len
 simp only[yap,yak,List.length_nil] at hm
 have hp:=ii ha
 have hcm:=iV ha yad
 have hmc:=H.mc
 have ea:EOK a:=iE ha (λt ht=>H.ti t (by simp[ht])) a xac
 have hD:Dgs n.text:=H.ti n xac hn
 have hDi:Dgs i.text:=H.ti i xac hi
 have hci:cm 0 [i]=some 0:=pB (by rw[hi];decide) (by rw[hi];decide) (by rw[hi];decide)
 have hcn:cm 0 [n]=some 0:=pB (by rw[hn];decide) (by rw[hn];decide) (by rw[hn];decide)
 have hsp:fx (ts++c::([i]++d::[n]))=[ts,[i],[n]]:=vg hcm hc hci hd hcn
 have hu:ts++c::([i]++d::[n])=((k::l::(ts++[c,i,d,n,q])).drop 2).take (m-1-2):=by
  rw[List.drop_succ_cons,List.drop_succ_cons,List.drop_zero,show ts++[c,i,d,n,q]=(ts++c::([i]++d::[n]))++[q] by simp,List.take_append_of_le_length yaf,yao yaf]
 have t1:∀x:List UInt8,x≠xM->(k.sym==x)=false:=λx h1=>by
  rw[beq_eq_false_iff_ne]
  rintro rfl
  exact h1 hk
 refine ju H (Pr.put hk hl ha hc hi hd hn hq) (t1 _ xab) (t1 _ xab) (t1 _ xab) (t1 _ xab) (t1 _ xab) xaa (ts++c::([i]++d::[n])) hu (by rw[l8 (X:=[ts,[i]]) (y:=[n]) xac hsp _ yaf];simp) _ (λW' aS cS kk hS=>?_)
 rw[hsp] at hS ⊢
 obtain⟨gr,rfl,hlo,hgr,hS2⟩:=hS.at_ xac
 obtain⟨o,c0,c1,c2,c3⟩:=hS2 0 xac
 obtain⟨o',c0',c1',c2',c3'⟩:=hS2 1 xac
 obtain⟨o2,c02,c12,c22,c32⟩:=hS2 2 xac
 have HC:∀W'',Kept 0 0 W' W''->Calls prog 75 #[.pointer (some ⟨P,0,none⟩),.slice aL nL cL,.slice (some ⟨g,o,none⟩) ts.length c0] W'' (TrO W'' P B u1 u2 u3 u4 bs r1):=λW'' k2=>
  IH W'' P B u1 u2 u3 u4 bs st aL nL cL loc g o ts.length c0 ts ⟨H.ws.keep (kk.trans k2),H.gd,H.nm,H.lc.keep (kk.trans k2),H.ln,H.lo,c2.keep k2,H.tg,by have:=H.m5;omega,c3,λt ht=>H.ti t (by simp[ht]),λt ht=>H.tn t (by simp[ht])⟩ 2 a ha yad r1 e1
 have hG:=fW f st loc a H.gd H.nm H.lo ea r1 e1
 have hnM:¬Mst P u1 u2 u3 u4 gr:=H.ws.far2 hlo
 have HQ:∀s x,r1=.ok (s,x)->∀W'' v1 v2 v3 v4,WS W'' P B v1 v2 v3 v4 bs s->Mv (Mst P u1 u2 u3 u4) W' (Mst P v1 v2 v3 v4) W''->Calls prog 127 #[.pointer (some ⟨P,0,none⟩),ik k,.int .i64 (x:Int),.slice (some ⟨gr,0,none⟩) 3 cS] W'' (TrO W'' P B v1 v2 v3 v4 bs (wQ k i n r1)):=λs x e W'' v1 v2 v3 v4 hw hM=>by
  obtain⟨w,hx⟩:=hG s x e
  subst e
  exact AI hw w.g k hk x hx i hDi yad ⟨yaj hgr hM.chg.size,(hM.chg.cell (p:=⟨gr,1,none⟩) hgr hnM).trans c1',c2'.keepC hM.chg H.tg⟩ n hD ⟨yaj hgr hM.chg.size,(hM.chg.cell (p:=⟨gr,2,none⟩) hgr hnM).trans c12,c22.keepC hM.chg H.tg⟩
 obtain⟨ks,kp,kt⟩:=k
 simp only at hk
 subst hk
 exact pX (.inr (.inr rfl)) (H.ws.keep kk) kp kt xac hgr c1 r1 _ hG HC HQ
