import Derived.Test.YtnlffngpnoodkaaGreatP26
import Derived.Test.YtnlffngpnoodkaaGreatP21
namespace Go.Proofs.YtnlffngpnoodkaaGreat
set_option maxRecDepth 1000000
set_option maxHeartbeats 0
section
open Go.RowKit Flt
attribute [local go_sem] ic ib ia iU
attribute [local go_sem] Oper.semAt_some
variable {w:World} {lo P K A S n x m base cr:Nat} {u1 u3 rv vv vv1:Value} {ar:Option Addr} {R R1:Option Nat} {vs0:List Vl} {act:List Bool} {rs:List Value} {st:List Vl×List Int}
structure G1S (w wx:World)(P K A S n:Nat)(u1 u3 rv:Value)(act:List Bool)(base:Nat)(R R1:Option Nat)(vv1:Value)(st:List Vl×List Int):Prop where
 bs:BS wx P u1 u3 st.1 (ig st.1) base R1 vv1
 bk:BK wx K P A S n rv act st.2
 dj:Dj P K A S R1
 stq:StQ (λb=>b=P\/b=S) R w R1 wx
theorem G1S.gi {wx:World}(f:G1S w wx P K A S n u1 u3 rv act base R R1 vv1 st)(hC:NbC lo P K A S R)(o:Obj):GI w (wx.alloc o) (wx.alloc o) lo P K A S n wx.heap.size u1 u3 rv act base R1 st:=by
 have k:=hU 0 0 wx o
 have hsz:(wx.alloc o).heap.size=wx.heap.size+1:=by simp
 have hw:=f.stq.chg.size
 refine⟨R1,vv1,⟨?_,⟨hC.p,λb hb=>?_⟩,BS.keep f.bs k,f.bk.keep k,f.dj,StQ.refl _ _ _⟩,Same.refl (by omega),λe=>?_⟩
 ·refine Same.chg (Same.chg (Same.refl (Nat.le_refl _)) f.stq.chg (λb b1 b2 c=>?_)) (k.chg (S:=λ_=>False)) (λ_ _ _ h=>h)
  have h1:=hC.p
  have h2:=hC.s
  rcases c with (c|c)|c
  ·omega
  ·omega
  ·have:=hC.r b c;omega
 ·rcases f.stq.row with c|⟨r,c,hr⟩
  ·exact .inl (hC.r b (by rw[<-c];exact hb))
  ·rw[c] at hb;cases hb;exact .inr hr
 ·have:=(ii f.bs.own (by rw[f.bs.row];exact e)).2
  omega
theorem NB.rows (f:NB w w lo P K A S n u1 u3 vv (.slice ar m cr) vs0 x m base R rs):∃g,(0<m->lo<=g/\g<w.heap.size)/\∀j,j<m->ar=some ⟨g,0,none⟩/\∃N bs,rs[j]?.getD .nilFunc=.func (.func N) #[] bs/\w.cell? ⟨g,j,none⟩=some (.func (.func N) #[] bs):=by
 by_cases h0:0<m
 ·obtain⟨g,cap,e,hb,hg⟩:=f.row.form h0
  cases e
  refine⟨g,λ_=>⟨hb,hg⟩,λj hj=>⟨rfl,?_⟩⟩
  have hrl:rs.length=m:=by have:=f.row.1;omega
  have hc:=f.row.cellAt j (by omega)
  obtain⟨u,hu⟩:∃u,rs[j]? =some u:=⟨_,List.getElem?_eq_getElem (by omega)⟩
  obtain⟨lo',hi',xw,xi,xo,xp,go,a,mp,cp,fv,_,_,_,rfl,_⟩:=f.rl j u hu
  rw[hu] at hc ⊢
  exact⟨_,_,rfl,hc⟩
 ·exact⟨0,λh=>absurd h h0,λj hj=>absurd hj (by omega)⟩
theorem NB.rule (f:NB w w lo P K A S n u1 u3 vv rv vs0 x m base R rs)(j:Nat)(hj:j<m):∃xw xi xo xp go a mp cp fv,rs[j]?.getD .nilFunc=qn xw xi xo xp/\RuleIn w lo w.heap.size P K vs0 (x+1+j) xw xi xo xp go a mp cp fv:=by
 have hrl:rs.length=m:=by have:=f.row.1;omega
 obtain⟨u,hu⟩:∃u,rs[j]? =some u:=⟨_,List.getElem?_eq_getElem (by omega)⟩
 obtain⟨lo',hi',xw,xi,xo,xp,go,a,mp,cp,fv,h1,h2,_,rfl,h5⟩:=f.rl j u hu
 exact⟨xw,xi,xo,xp,go,a,mp,cp,fv,by rw[hu];rfl,h5.mono (Same.refl h2) h1 h2⟩
theorem wK {wc:World}(f:NB w w lo P K A S n u1 u3 vv (.slice ar m cr) vs0 x m base R rs)(hC:NbC lo P K A S R)(h:G1S w wc P K A S n u1 u3 (.slice ar m cr) act base R R1 vv1 st)(T:TypeId):∃g,(0<m->lo<=g/\g<w.heap.size)/\∀W,Below (wc.alloc (.cells #[.slice ar m cr] T)).heap.size (wc.alloc (.cells #[.slice ar m cr] T)) W->BkI W wc.heap.size g m cr ar rs:=by
 obtain⟨g,hg,hr⟩:=f.rows
 have hw:=h.stq.chg.size
 refine⟨g,hg,λW hW=>⟨?_,λj hj=>?_⟩⟩
 ·rw[hW.cell (p:=⟨wc.heap.size,0,none⟩) (by simp),World.cell?_alloc_at _ _ wc.heap.size _ rfl]
  rfl
 ·obtain⟨e,N,bs,h1,h2⟩:=hr j hj
  obtain⟨g1,g2⟩:=hg (by omega)
  refine⟨e,N,bs,h1,?_⟩
  rw[hW.cell (p:=⟨g,j,none⟩) (by simp;omega),(hU 0 0 wc _).chg (S:=λ_=>False) |>.cell (p:=⟨g,j,none⟩) (by show g<_;omega) (λh=>h),h.stq.chg.cell (p:=⟨g,j,none⟩) g2 ?_]
  ·exact h2
  ·have p1:=hC.p
   have p2:=hC.s
   rintro ((c|c)|c)
   ·have c:g=P:=c;omega
   ·have c:g=S:=c;omega
   ·have:=hC.r g c;omega
theorem yj {Q:Nat->Prop}{W:World}{D:Nat}{us:List Vl}{c:Int}{R':Option Nat}(h:BS W P u1 u3 us c base R' vv)(s:StQ Q R w R' W)(hD:w.heap.size<=D)(hK:W.heap[D]? =some (.deferred (some []))):BS (W.putObj D (.deferred none)) P u1 u3 us c base R' vv/\StQ Q R w R' (W.putObj D (.deferred none)):=by
 have g:=grownBy_putObj' W D (.deferred none)
 have hr:∀r,some D=some r->w.heap.size<=r/\∃o:Obj,W.heap[r]? =some o/\o.isCells=false:=λr e=>by cases e;exact⟨hD,_,hK,rfl⟩
 exact⟨BS.chg h (kV g) (mQ hr (λo ho=>mP h.c0 ho)) (λb hb=>mQ hr (λo ho=>ph h.own (by rw[h.row];exact hb) ho)),s.own g (λr e=>(hr r e).1)⟩
theorem sS (w:World)(lo P K A S n s x m base:Nat)(u1 u3 vv rv:Value)(vs0:List Vl)(R:Option Nat)(rs:List Value)(hm:m=s-x)(hN:NB w w lo P K A S n u1 u3 vv rv vs0 x m base R rs)(hC:NbC lo P K A S R)(hn:vs0.length=n)(hl:n<=2000)(hs:s<n)(hx:x<n)
  (hlen:∀j,j<n->1<=(vs0.getD j Vl.zero).len/\(vs0.getD j Vl.zero).len<=1000) (hz:SzU 2000 50000 vs0) (hops:∀j,j<n->∀k,k<cnt (vs0.getD j Vl.zero).op->0<=fld (vs0.getD j Vl.zero) k/\fld (vs0.getD j Vl.zero) k<j) (ha:(iS vs0 x (s-x)).getD s false=true):
  Calls Tryz.prog 66 #[.pointer (some ⟨K,0,none⟩),.int .i64 (s:Int),.int .i64 (x:Int)] w λe w'=>GrO w P S u1 u3 base R (grM vs0 s x) e w':=by
 have HG:Hid (grM vs0 s x=qp vs0 x (km vs0 (iS vs0 x (s-x)) x (ky vs0 s) (lY (s-x)))):=by
  show _=_
  unfold grM
  rw[if_pos ha]
 rw[<-hm] at ha HG
 have y0:=hN.bk.c0
 have y1:=hN.bk.c1
 have y2:=hN.bk.c2
 have y3:=hN.bk.c3
 have yA:=BR.cell hN.bk.ac s (by rw[hN.bk.al];exact hs)
 rw[ha] at yA
 have hb:=C5 hz (by omega) (by omega)
 have HX:Hid _:=pw w.drew P u1 u3 vs0 (ig vs0) base R vv 1 4607182418800017408 (BS.keep hN.bs (ie w)) (by omega) (by omega) (by omega) (by omega) (by omega)
 have hs1:(0:Int)<=(s:Int):=by omega
 have hs2:(s:Int)<(n:Int):=by omega
 have hx1:(0:Int)<=(x:Int):=by omega
 have hx2:(x:Int)<(n:Int):=by omega
 have HN:Hid _:=hN
 have HC:Hid _:=hC
 have HM:Hid (m=s-x):=hm
 have HLE:Hid _:=hlen
 have HZ:Hid _:=hz
 have HOS:Hid _:=hops
 have HNN:Hid (vs0.length=n):=hn
 clear hN hlen hz ha hb hC hm hops hn
 refine callsIn_wide.1 (callsIn_of_wp_marks (F:=Fence.wide) (n:=3) Tryz.func66 rfl trivial ?_ rfl)
 simp only[Tryz.ntmps66,List.size_toArray,List.length_cons,List.length_nil,Nat.reduceAdd,Nat.reduceSub,Array.replicate_succ,Array.replicate_zero,List.push_toArray,List.append_toArray,List.nil_append,List.cons_append]
 rw[wpIn_wide]
 go_wp2_with fail
 go_cut [] from 9 to 61 (λwx=>∃R1 vv1,Hid (G1S w wx P K A S n u1 u3 rv (iS vs0 x m) base R R1 vv1 (ky vs0 s)))
 case first=>
  go_region_held3 (λw'=>w'.cell? ⟨K,0,none⟩=some (.pointer (some ⟨P,0,none⟩))/\w'.cell? ⟨K,2,none⟩=some (.slice (some ⟨S,0,none⟩) n n)) (first|go_keep|(refine⟨?_,?_⟩<;>(rw[iB _ _ _ _ _ _ (.inl (λe=>HC.out.dj.ks e.symm))];assumption))) (first
   |(go_at_call 88;refine Calls.mono HX.out ?_;rintro e w2 ⟨rfl,R2,vv2,h2,s2⟩;have s9:Stp P R w R2 w2:=StQ.trans ⟨(ie w).chg,.inl rfl⟩ s2;have HS9:Hid _:=s9;have H2:Hid _:=h2;have HB2:Hid _:=HN.out.bk.step HC.out.dj s9;have z0:=HB2.out.c0;have z2:=HB2.out.c2;have zS:=IR.cell HB2.out.sp s (by simp;exact hs);have zf:=IR.free HB2.out.sp s;generalize (List.replicate n (-1:Int)).getD s 0=zz at zS;clear s9 h2 s2))
  all_goals
   have HD2:Hid _:=HC.out.dj.step HS9.out HN.out.bk.lt HN.out.bk.ac.lt HN.out.bk.sp.lt
   have R1:Hid (G1S w (w2.setCell ⟨S,s,none⟩ (.int .i64 ((vs0.length:Nat):Int))) P K A S n u1 u3 rv (iS vs0 x m) base R R2 vv2 (ky vs0 s)):=by
    refine⟨?_,?_,HD2.out,StQ.trans (HS9.out.mono λb c=>.inl c) ⟨iH w2 S s _ (.inl (.inr rfl)),.inl rfl⟩⟩
    ·show BS _ _ _ _ (vs0++_) (ig (vs0++_)) _ _ _
     rw[jB]
     exact BS.setS H2.out HD2.out.sp HD2.out.rs
    ·have:=HB2.out.set HD2.out s ((vs0.length:Nat):Int)
     unfold ky
     rw[HNN.out] at this ⊢
     exact this
   clear HB2 H2 HS9 HD2
   go_wp2_with fail
   go_meet
   exact⟨_,_,R1⟩
 case rest=>
  obtain⟨R1,vv1,H1⟩:=hcut
  clear HX y0 y1 y2 y3 yA
  have z3:=H1.out.bk.c3
  obtain⟨ar,cr,rfl⟩:=mx HN.out.row
  go_wp2_with (first|(go_at_call 91;refine Calls.mono (callsIn_wide.1 (tH Fence.wide 3 trivial rfl _ _ _ _)) ?_;rintro e w2 ⟨rfl,rfl⟩)|fail)
  have hT:=wK HN.out HC.out H1.out 111
  obtain⟨g,hg,hBk⟩:=hT
  have HGI:Hid _:=H1.out.gi HC.out (.cells #[.slice ar m cr] 111)
  have hlo:lo<=wc.heap.size:=by have:=H1.out.stq.chg.size;have:=HN.out.sz;omega
  have hw0:w.heap.size<=(wc.alloc (.cells #[.slice ar m cr] 111)).heap.size:=by have:=H1.out.stq.chg.size;simp;omega
  have hBs:wc.heap.size+1<=(wc.alloc (.cells #[.slice ar m cr] 111)).heap.size:=by simp
  have HS1:Hid (StQ (λb=>b=P\/b=S) R w R1 (wc.alloc (.cells #[.slice ar m cr] 111))):=StQ.trans H1.out.stq ⟨(hU 0 0 wc _).chg,.inl rfl⟩
  have HST:Hid (SzU 2001 51000 (ky vs0 s).1/\Pre vs0 (ky vs0 s).1):=⟨SzU.app (L':=1) (C':=1000) HZ.out ⟨by simp,by simp[ig],by simp[ig]⟩,⟨_,rfl⟩⟩
  clear z3
  generalize hW1:wc.alloc (.cells #[.slice ar m cr] 111)=W1 at HGI hw0 hBk hBs HS1 ⊢
  generalize hBB:wc.heap.size=Bs at HGI hBk hlo hBs ⊢
  clear H1 hW1
  refine(wpIn_wide (n:=3)).1 ?_
  refine wpIn_rangeFunc_ownG (F:=Fence.wide) rfl (by decide) (gf:=116) (lb:=#[.pointer (some ⟨Bs,0,none⟩)]) rfl trivial (enters_of Tryz.func116 (by kernel_rfl) rfl)
   (uF Fence.wide (3-1) trivial rfl (by decide) Bs g m cr ar rs (by have:=HM.out;omega) (Kpp lo w.heap.size Bs) (λA B k h=>yi k hg h) W1 hBk)
   (λh k=>⟨h.1.trans k.1 (Nat.le_refl _) (Nat.le_refl _),h.2.trans k.2 (Nat.le_refl _) (Nat.le_refl _)⟩) (λW l o o' hl h _ _=>⟨Same.put W l o o' hw0 hl h,Same.put W l o o' hBs hl h⟩) (Below.refl _ _) (λ_=>rfl)
   (λpre W=>GI w W1 W lo P K A S n Bs u1 u3 (.slice ar m cr) (iS vs0 x m) base R1 (km vs0 (iS vs0 x m) x (ky vs0 s) (pre.map Fin.val))) (λ_ _ _=>False)
   (λpre A B row h hgr hr=>h.own hw0 hgr hr) (λ_ _ _ _ _ h _ _=>h) HGI.out
   (λy:Fin m=>{tmps:=#[.pointer (some ⟨K,0,none⟩),.int .i64 (s:Int),.int .i64 (x:Int),undef,undef,undef,.int .i64 0,undef,rs[y.1]?.getD .nilFunc,u9,u10,u11,u12,u13,u14,u15,u16,u17,u18,u19,u20,u21,u22,u23,u24,u25,u26,.pointer (some ⟨K,0,none⟩),.pointer (some ⟨K,0,none⟩),.pointer (some ⟨K,3,none⟩),.slice ar m cr,.func (.func 116) #[] #[.pointer (some ⟨Bs,0,none⟩)],.int .i64 (y.1:Int),rs[y.1]?.getD .nilFunc,u34,u35,u36,u37,u38,u39,u40,u41,u42,u43,u44,u45,u46,u47,u48,u49,u50,u51,u52,u53,u54,u55,u56,u57,u58,u59,u60,u61],defers:=[]}) ?assign ?body ?done ?stop
  case assign=>
   intro l y W K hK
   gi_wp2
   exact hK
  case body=>
   rintro l pre y W hI hlen
   obtain⟨xw,xi,xo,xp,go,a6,mp6,cp6,fv6,hr6,ri6⟩:=HN.out.rule y.1 y.2
   have hy:x+1+y.1<n:=by have:=HM.out;have:=y.2;omega
   have hinv:=pg (act:=iS vs0 x m) (x:=x) (mO (by rw[HNN.out];exact HLE.out)) (pre.map Fin.val) 2001 51000 (ky vs0 s) HST.out.1 HST.out.2
   have hm2:m<=2000:=by have:=HM.out;omega
   have HRU:Hid _:=AI ri6 hI HC.out.s hlo hy HNN.out hinv.2.1 hinv.1 (by simp;omega) (by simp;omega) HLE.out (HOS.out _ hy)
   rw[hr6]
   clear hI hinv ri6 hr6
   gi_wp2_with ((try refine⟨trivial,?_⟩);gi_at_call 114;refine(CallsIn.inRound l (callsIn_wide.2 HRU.out)).mono ?_;rintro e W' ⟨rfl,ko,kp,gi⟩)
   refine⟨ko.from _,kp,?_⟩
   dsimp only
   rw[List.map_append,List.map_cons,List.map_nil,qo]
   exact gi
  case done=>
   rintro D ys W hD hS hI hK
   rw[hS] at hI
   have hinv:=pg (act:=iS vs0 x m) (x:=x) (mO (by rw[HNN.out];exact HLE.out)) (lY m) 2001 51000 (ky vs0 s) HST.out.1 HST.out.2
   have hdl:(lY m).length=m:=by simp[lY]
   have hm2:m<=2000:=by have:=HM.out;omega
   rw[hdl] at hinv
   obtain⟨R2,vv2,f,_,_⟩:=hI
   change RSt _ _ _ _ _ _ _ _ _ _ _ _ _ _ _ _ _ _ (km vs0 (iS vs0 x m) x (ky vs0 s) (lY m)) at f
   generalize km vs0 (iS vs0 x m) x (ky vs0 s) (lY m)=st at f hinv HG
   have hD0:w.heap.size<=D:=Nat.le_trans hw0 hD
   have HST2:Hid (StQ (λb=>b=P\/b=S) R w R2 W):=StQ.trans HS1.out f.stq
   have HF:Hid _:=f
   have hb:=C5 hinv.1 (by omega) (by omega)
   have y0:=f.bk.c0
   have y2:=f.bk.c2
   have yS:=IR.cell f.bk.sp x (by rw[f.bk.ln];exact hx)
   have hxl:=HLE.out x hx
   have hpx:=hinv.2.1.at_ (show x<vs0.length by rw[HNN.out];exact hx)
   by_cases hq:st.2.getD x 0=-1
   ·rw[hq] at yS
    have HG2:Hid (grM vs0 s x=(st.1++[ik 1 (vs0.getD x Vl.zero).len 0 0 0],((st.1.length:Nat):Int))):=by
     show _=_
     rw[HG.out]
     unfold qp
     rw[if_pos hq]
    have HX:Hid _:=nd W.drew P u1 u3 st.1 (ig st.1) base R2 vv2 (vs0.getD x Vl.zero).len (BS.keep f.bs (ie W)) (by omega) (by omega) (by omega) (by omega) (by omega)
    have HL:Hid _:=qk W.drew P u1 u3 st.1 (ig st.1) base R2 vv2 (BS.keep f.bs (ie W)) x hpx.2 (by omega)
    rw[hpx.1] at HL
    generalize (vs0.getD x Vl.zero).len=L at HX HL HG2
    have HKD:Hid (W.drew.heap[D]? =some (.deferred (some []))):=hK
    clear f hinv hb hxl hpx hq HG HGI hBk HST hK hS
    go_wp2_with fail
    go_region_held3 (λw'=>w'.cell? ⟨K,0,none⟩=some (.pointer (some ⟨P,0,none⟩))) (go_keep) (first
     |(go_at_call 64;refine Calls.mono HL.out ?_;rintro e w1 ⟨rfl,rfl⟩)
     |(go_at_call 63;refine Calls.mono HX.out ?_;rintro e w2 ⟨rfl,R3,vv3,h2,s2⟩;have H2:Hid _:=h2;have S2:Hid _:=s2;have z0:=(HF.out.bk.step HF.out.dj (StQ.trans ⟨(ie W).chg,.inl rfl⟩ s2)).c0;have HK2:Hid (w2.heap[D]? =some (.deferred (some []))):=(StQ.others (s2.mono λb c=>.inl c) (BS.keep HF.out.bs (ie W)) (HF.out.bk.keep (ie W))).same D _ HKD.out rfl;clear h2 s2))
    all_goals
     go_wp2_with fail
     refine⟨by simp,.inl ⟨_,_,rfl,run_takeDeferred HK2.out,?_⟩⟩
     have hst:StQ (λb=>b=P\/b=S) R w R3 w2:=StQ.trans HST2.out (StQ.trans ⟨(ie W).chg,.inl rfl⟩ (S2.out.mono λb c=>.inl c))
     have hbs:BS w2 P u1 u3 (st.1++[ik 1 L 0 0 0]) (ig (st.1++[ik 1 L 0 0 0])) base R3 vv3:=by
      rw[jB]
      exact H2.out
     have he:=yj hbs hst hD0 HK2.out
     refine⟨_,results_tmp rfl _ _ _,?_⟩
     rw[HG2.out]
     exact⟨rfl,R3,vv3,he.1,he.2⟩
   ·have hq1:(st.2.getD x 0==-1)=false:=by simp;exact hq
    have HG2:Hid (grM vs0 s x=(st.1,st.2.getD x 0)):=by
     show _=_
     rw[HG.out]
     unfold qp
     rw[if_neg hq]
    generalize st.2.getD x 0=q at yS hq1 HG2
    have HKD:Hid (W.heap[D]? =some (.deferred (some []))):=hK
    clear f hinv hb hxl hpx hq HG HGI hBk HST hK hS
    go_wp2_with fail
    refine⟨by simp,.inl ⟨_,_,rfl,run_takeDeferred HKD.out,?_⟩⟩
    have he:=yj HF.out.bs HST2.out hD0 HKD.out
    refine⟨_,results_tmp rfl _ _ _,?_⟩
    rw[HG2.out]
    exact⟨rfl,R2,vv2,he.1,he.2⟩
  case stop=>
   rintro D c pre W _ _ h _
   exact h.elim
end
section
open Go.RowKit Flt
attribute [local go_sem] ic ib ia
variable {w wB w':World} {P G1 d1 n1 G3 base d3 n3:Nat} {ins outs:List Int} {vs:List Vl} {R:Option Nat}
def PGo (w:World)(P:Nat)(u1 u3:Value)(base:Nat)(R:Option Nat)(M:List Vl×Int)(e:Ending)(w':World):Prop:=
 e=.returned (.int .i64 M.2)/\∃R' vv',BS w' P u1 u3 M.1 (ig M.1) base R' vv'/\Stp P R w R' w'
theorem yk {w1:World}{S:Nat}{u1 u3:Value}{M:List Vl×Int}{e:Ending}(k:Kept 0 0 w w1)(hS:w.heap.size<=S)(h:GrO w1 P S u1 u3 base R M e w'):PGo w P u1 u3 base R M e w':=by
 obtain⟨rfl,R',vv',hb,hs⟩:=h
 have kc:=k.chg (S:=λ_=>False)
 refine⟨rfl,R',vv',hb,⟨hs.chg.os.trans kc.os,hs.chg.tape.trans kc.tape,hs.chg.output.trans kc.output,Nat.le_trans k.size hs.chg.size,λb hb hn=>?_⟩,?_⟩
 ·rw[hs.chg.block b (Nat.lt_of_lt_of_le hb k.size) ?_,kc.block b hb (λh=>h)]
  rintro ((c|c)|c)
  ·exact hn (.inl c)
  ·omega
  ·exact hn (.inr c)
 ·rcases hs.row with c|⟨r,c,hr⟩
  ·exact .inl c
  ·exact .inr ⟨r,c,Nat.le_trans k.size hr⟩
theorem yl (hok:(List.range vs.length).all (okV ins vs)=true):∀i,i<vs.length->((vs.getD i Vl.zero).op=9\/(vs.getD i Vl.zero).op=11)->∃j:Nat,(vs.getD i Vl.zero).a=(j:Int)/\j<vs.length/\(vs.getD j Vl.zero).len=laM vs i/\1<=laM vs i/\laM vs i<=1000:=λi hi ho=>by
 have h:=mN (List.all_eq_true.1 hok i (List.mem_range.2 hi)) 0 (by rcases ho with c|c<;>(rw[c];decide))
 have e:fld (vs.getD i Vl.zero) 0=(vs.getD i Vl.zero).a:=rfl
 rw[e] at h
 have hj:(vs.getD i Vl.zero).a.toNat<vs.length:=by omega
 have hl:=ja (List.all_eq_true.1 hok _ (List.mem_range.2 hj))
 exact⟨(vs.getD i Vl.zero).a.toNat,by omega,hj,rfl,hl.1,hl.2⟩
structure GJ (W wB:World)(P G1 d1 n1 G3 d3 n3 base:Nat)(ins outs:List Int)(vs:List Vl)(R:Option Nat)(vv:Value):Prop where
 b:BS W P (.slice (some ⟨G1,0,none⟩) n1 d1) (.slice (some ⟨G3,0,none⟩) n3 d3) vs (ig vs) base R vv
 i:OI W base G1 n1 d1 ins
 o:OI W base G3 n3 d3 outs
 k:Kept 0 0 wB W
 dP:wB.heap.size<=P
 dB:wB.heap.size<=base
 ne2:G1≠P
 ne3:G3≠P
 r2:R≠some G1
 r3:R≠some G3
theorem GJ.step {W W':World}{us:List Vl}{R':Option Nat}{vv vv':Value}(h:GJ W wB P G1 d1 n1 G3 d3 n3 base ins outs vs R vv)
  (hb:BS W' P (.slice (some ⟨G1,0,none⟩) n1 d1) (.slice (some ⟨G3,0,none⟩) n3 d3) us (ig us) base R' vv') (s:Stp P R W R' W'):GJ W' wB P G1 d1 n1 G3 d3 n3 base ins outs us R' vv':=by
 have l1:G1<W.heap.size:=(ii h.i (k:=G1) rfl).2
 have l3:G3<W.heap.size:=(ii h.o (k:=G3) rfl).2
 have far:∀B,B<W.heap.size->R≠some B->R'≠some B:=λB hB hR e=>by
  rcases s.row with q|⟨r,q,hr⟩
  ·exact hR (by rw[<-q];exact e)
  ·rw[q] at e
   cases e
   omega
 exact {
  b:=hb
  i:=pI h.i s (λe=>h.ne2 (by simpa[Value.ownBlock] using e)) (λg hg=>by
   have e:G1=g:=by simpa[Value.ownBlock] using hg
   subst e
   exact h.r2)
  o:=pI h.o s (λe=>h.ne3 (by simpa[Value.ownBlock] using e)) (λg hg=>by
   have e:G3=g:=by simpa[Value.ownBlock] using hg
   subst e
   exact h.r3)
  k:=Chg.kept h.k s.chg (by
   rintro i (c|c)
   ·rw[c];exact h.dP
   ·have:=(ii h.b.own (h.b.row.trans c)).1
    have:=h.dB
    omega)
  dP:=h.dP
  dB:=h.dB
  ne2:=h.ne2
  ne3:=h.ne3
  r2:=far G1 l1 h.r2
  r3:=far G3 l3 h.r3}
theorem FI {W wA:World}{gv cap p:Nat}(hJ:GJ W wB P G1 d1 n1 G3 d3 n3 base ins outs vs R (.slice (some ⟨gv,0,none⟩) vs.length cap))(k:Kept 0 0 W wA)(k2:Kept p (p+1) wA w')(hp:p<base)(hb:w.heap.size<=base)(h13:G1≠G3)(r:Int):
  An w w' n1 n3 ins outs (vs,r) (.returned (.tuple #[.agg #[.slice (some ⟨G1,0,none⟩) n1 d1,.slice (some ⟨gv,0,none⟩) vs.length cap,.slice (some ⟨G3,0,none⟩) n3 d3],.int .i64 r,.int .i64 0])):=by
 have hR:R=some gv:=hJ.b.row.symm
 have key:∀{e size n:Nat} {v:Value} {xs:List Value},W.ownsRow base e size v n xs->w'.ownsRow w.heap.size e size v n xs:=λh=>
  jP (iR (iC h k) k2 (λg hg=>by have:=(ii h hg).1;omega)) hb
 exact⟨G1,d1,G3,d3,gv,cap,rfl,key hJ.i,key hJ.o,key hJ.b.own,h13,λe=>hJ.r2 (by rw[hR,e]),λe=>hJ.r3 (by rw[hR,e])⟩
theorem C6 (w:World)(s x:Int):∀k,k<2->(w.alloc (.cells #[.int .i64 s,.int .i64 x] 3)).cell? ⟨w.heap.size,k,none⟩=some (.int .i64 ([s,x].getD k 0)):=λk hk=>by
 rcases (by omega:k=0\/k=1) with rfl|rfl<;>simp
theorem wL (vs0:List Vl)(o:Nat)(p:Int)(st:List Vl×List Int):Pre st.1 (jF vs0 o p st).1:=by
 unfold jF
 split
 ·exact⟨[],by simp⟩
 ·exact⟨_,rfl⟩
theorem pi {a b c:List Vl}(h:Pre a b)(k:Pre b c):Pre a c:=by
 obtain⟨r,rfl⟩:=h
 obtain⟨q,rfl⟩:=k
 exact⟨r++q,by simp⟩
theorem oM (a:List Vl):Pre a a:=⟨[],by simp⟩
theorem AJ (vs0:List Vl)(act:List Bool)(i k:Nat)(st:List Vl×List Int):Pre st.1 (gkM vs0 act i k st).1:=by
 unfold gkM
 split
 ·exact pi ⟨_,rfl⟩ (wL vs0 _ _ (st.1++_,st.2))
 ·exact oM _
theorem uf (vs0:List Vl)(act:List Bool)(i:Nat)(st:List Vl×List Int):∀k,Pre st.1 (jl vs0 act i st k).1
 |0=>oM _
 |k+1=>pi (uf vs0 act i st k) (AJ vs0 act i k _)
theorem AK (vs0:List Vl)(act:List Bool)(i:Nat)(st:List Vl×List Int):Pre st.1 (giM vs0 act i st).1:=by
 unfold giM
 split
 ·exact oM _
 ·exact uf vs0 act i st _
theorem rG (vs0:List Vl)(act:List Bool)(x:Nat):∀(st:List Vl×List Int) (js:List Nat),Pre st.1 (km vs0 act x st js).1
 |_,[]=>oM _
 |st,j::js=>pi (AK vs0 act (x+1+j) st) (rG vs0 act x (giM vs0 act (x+1+j) st) js)
theorem AL (vs:List Vl)(s x:Nat):0<(grM vs s x).1.length:=by
 unfold grM
 split
 ·unfold qp
  have h:0<(km vs (iS vs x (s-x)) x (ky vs s) (lY (s-x))).1.length:=by
   have hp:Pre (ky vs s).1 (km vs (iS vs x (s-x)) x (ky vs s) (lY (s-x))).1:=rG vs _ x _ _
   obtain⟨r,e⟩:=hp
   rw[e]
   simp[ky]
   omega
  split
  ·simp
  ·exact h
 ·simp
end
section
open Go.RowKit Flt
variable {w W':World} {m1 e1 m3 e3 base cap g2:Nat} {b1 b3:Option Addr} {vs:List Vl} {R R':Option Nat}
noncomputable abbrev uX (n:Nat):Code:=(Tryz.f54.body.bind (n6 n)).getD .skip
def PtP (w:World)(b1:Option Addr)(m1 e1:Nat)(b3:Option Addr)(m3 e3:Nat)(vs:List Vl)(base:Nat)(R:Option Nat)(M:List Vl×Int)(bb:Bool)(e:Ending)(w':World):Prop:=
 ∃a2' cap' R',e=.returned (.tuple #[ip b1 m1 e1 a2' (vs++M.1).length cap' b3 m3 e3,.int .i64 M.2,.bool bb])/\w'.ownsRow base 31 6 (.slice a2' (vs++M.1).length cap') (vs++M.1).length (iN (vs++M.1))/\(Value.slice a2' (vs++M.1).length cap').ownBlock=R'/\StQ (λ_=>False) R w R' w'
theorem MS.finP {W:World}{a2:Option Addr}{vs0:List Vl}{v:Vl}{M:List Vl×Int}(h:MS w W b1 m1 e1 b3 m3 e3 vs v base R R' a2 cap)(k:Kept 0 0 W W')(hv:vs=vs0++M.1)(bb:Bool):
  PtP w b1 m1 e1 b3 m3 e3 vs0 base R M bb (.returned (.tuple #[ip b1 m1 e1 a2 vs.length cap b3 m3 e3,.int .i64 M.2,.bool bb])) (iM W' (w.heap.size+1) (.slice b1 m1 e1) (.slice a2 vs.length cap) (.slice b3 m3 e3)):=by
 subst hv
 have nB:(Value.slice a2 (vs0++M.1).length cap).ownBlock≠some (w.heap.size+1):=by rw[h.g.row];exact h.n1
 exact⟨a2,cap,R',rfl,ir (ir (ir (iC h.g.own k) nB) nB) nB,h.g.row,(h.s.keepQ k).new (iD W' (w.heap.size+1) _ _ _) (by omega)⟩
theorem vQ (h:w.ownsRow base 31 6 (.slice (some ⟨g2,0,none⟩) vs.length cap) vs.length (iN vs))(k:Kept 0 0 w W')(r:Int)(bb:Bool):
  PtP w b1 m1 e1 b3 m3 e3 vs base (some g2) ([],r) bb (.returned (.tuple #[ip b1 m1 e1 (some ⟨g2,0,none⟩) vs.length cap b3 m3 e3,.int .i64 r,.bool bb])) W':=by
 unfold PtP
 simp only[List.append_nil]
 exact⟨_,_,_,rfl,iC h k,rfl,(StQ.refl _ _ w).keepQ k⟩
theorem MS.len1 {W:World}{v:Vl}(h:MS w W b1 m1 e1 b3 m3 e3 vs v base R R' (some ⟨g2,0,none⟩) cap){j:Nat}{la:Int}(hj:j<vs.length)(hla:(vs.getD j Vl.zero).len=la):W.cell? ⟨g2,j*6+1,none⟩=some (.int .i64 la):=by
 obtain⟨g,c,e,_,_,_,hva⟩:=kU h.g.own (by omega) rfl
 cases e
 have:=(hva.at_ j hj).c1
 rw[hla] at this
 exact this
end
end Go.Proofs.YtnlffngpnoodkaaGreat
