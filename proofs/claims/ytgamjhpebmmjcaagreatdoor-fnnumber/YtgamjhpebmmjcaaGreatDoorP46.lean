import Derived.Test.YtgamjhpebmmjcaaGreatDoorP43
import Derived.Test.YtgamjhpebmmjcaaGreatDoorP45
import Derived.Test.YtgamjhpebmmjcaaGreatDoorP42
import Derived.Test.YtgamjhpebmmjcaaGreatDoorP32
import Derived.Test.YtgamjhpebmmjcaaGreatDoorP36
import Derived.Deep.LoopGhost
import Derived.Deep.RegionWith
import Derived.Test.YtgamjhpebmmjcaaGreatDoorP41
namespace Go.Proofs.YtgamjhpebmmjcaaGreatDoor
set_option maxRecDepth 100000
set_option maxHeartbeats 40000000
open Go.RowKit Flt
attribute [local go_sem] alloc_drewN setCell_drewN run_store_float fld0 fld1 fld2 mkF
theorem takeTrC {E:Tqe}{ρ:Nat→Nat}{w:World}{st:LSt}{L:List TkV}{xs:List Nat}(h:Tq E ρ w st L xs)(n:Nat)(hn:n≤xs.length)(hl:xs.length≤6000000):
  Calls Tryz.prog 214 #[.pointer (some ⟨E.T,0,none⟩),.int .i64 (n:Int)] w fun e w'=>∃v,e=.returned v∧OfR w' ρ v (xs.drop (xs.length-n))∧Tq E ρ w' st L (xs.take (xs.length-n))∧Sco ρ w ρ w'∧Chg (fun b=>b=E.T) w w':=by
 obtain⟨u1,u3,vv,tv,xv,hB,hT⟩:=h
 have t5:=hT.t5
 have f5:=hT.fz 5
 rcases hT.x.2 with⟨e1,e2⟩|⟨g,cap,cur,e1,b1,b2,b3,b4,b5,b6⟩
 ·subst e1
  have hx0:xs=[]:=List.length_eq_zero_iff.1 e2
  subst hx0
  have hn0:n=0:=by simpa using hn
  subst hn0
  have HQ:Hid _:=Tq.cut (xs':=[]) (xv':=.slice none 0 0) hB hT (Kept.refl 0 0 w) (World.ownsRow_nil w E.N 3 1) (fun b q=>q)
  have HZ:Hid (OfR w ρ (.slice none 0 0) []):=⟨World.ownsRow_nil w 0 3 1,fun b q=>by cases q⟩
  have hlt:=hT.lt
  clear hB hT hn e2
  go_enter Tryz.func214,Tryz.ntmps214
  go_wp2_with (go_at_call 41;refine Calls.mono (cloneNil _) ?_;rintro e w2 ⟨rfl,hw⟩;obtain rfl:=hw.symm)
  go_ret
  obtain⟨q1,q2,q3⟩:=HQ.out
  exact⟨_,rfl,HZ.out.sco q3,⟨u1,u3,vv,tv,_,q1,q2⟩,q3,chg_setCell _ _ _ _ rfl⟩
 ·subst e1
  have hg:g<w.heap.size:=(own_blkV hT.x rfl).2
  have hrow:=hT.x
  obtain⟨m,hm⟩:∃m,m=xs.length:=⟨_,rfl⟩
  obtain⟨fr,hfr⟩:∃fr,fr=xs.length-n:=⟨_,rfl⟩
  have hcl:∀k,k<n→w.cell? ⟨g,fr+k,none⟩=some (.int .i64 ((xs.drop fr).getD k 0:Nat)):=fun k hk=>by
   have hx:fr+k<xs.length:=by omega
   have:=hrow.cells (g:=g) rfl (fr+k) (.int .i64 (xs.getD (fr+k) 0:Nat)) (by
    unfold intsN
    rw[List.getElem?_map,List.getElem?_eq_getElem hx,List.getD_eq_getElem?_getD,List.getElem?_eq_getElem hx];rfl)
   rw[add_addr,Nat.zero_add] at this
   rw[this,List.getD_eq_getElem?_getD,List.getD_eq_getElem?_getD,List.getElem?_drop]
  have HC:Hid (∀o c,(o=fr∨n=0)→_):=fun o c ho=>cloneO w g o (m-fr) c (xs.drop fr) (by omega) (by rw[List.length_drop];omega) hg (fun k hk=>by
   rcases ho with rfl|ho
   ·exact hcl k (by omega)
   ·omega)
  have hcut:w.ownsRow E.N 3 1 (.slice (some ⟨g,0,none⟩) fr cap) (xs.take fr).length (intsN (xs.take fr)):=by
   have hlen:(xs.take fr).length=fr:=by rw[List.length_take];omega
   rw[hlen]
   refine⟨by unfold intsN;rw[List.length_map,hlen,Nat.mul_one],.inr ⟨g,cap,cur,rfl,b1,b2,by omega,b4,b5,?_⟩⟩
   rw[Nat.mul_one] at b6 ⊢
   unfold intsN at b6 ⊢
   rw[List.map_take,←b6,List.take_take,Nat.min_eq_left (by omega)]
  have HQ:Hid (∀W1,Kept 0 0 w W1→_):=fun W1 k=>Tq.cut (xs':=xs.take fr) (xv':=.slice (some ⟨g,0,none⟩) fr cap) hB hT k hcut (fun b q=>q)
  have hlt:=hT.lt
  have HT5:Hid (∀W1,Kept 0 0 w W1→W1.cell? ⟨E.T,5,none⟩=some (.slice (some ⟨g,0,none⟩) m cap)∧W1.frozen? ⟨E.T,5,none⟩=false):=fun W1 k=>⟨kcell k hT.lt (by rw[hm];exact hT.t5),by rw[k.frozen (p:=⟨E.T,5,none⟩) hT.lt (by omega)];exact hT.fz 5⟩
  have HN0:Hid _:=hT.rN
  have HT2:Hid (ρ E.T≠0):=by show _≠_;rw[hT.rT];decide
  rw[←hm] at t5 hn hl b3
  rw[←hfr]
  have e3:(m:Int)-(n:Int)=(fr:Int):=by omega
  have HM:Hid (m=xs.length∧fr=xs.length-n):=⟨hm,hfr⟩
  have e5:fr≤m:=by omega
  clear hB hT hrow hcl hcut b2 b5 b6 hm hfr
  rcases Nat.lt_or_ge fr cap with d|d
  ·have HC1:Hid _:=HC.out fr (cap-fr) (.inl rfl)
   clear HC
   go_enter Tryz.func214,Tryz.ntmps214
   go_wp2_with (go_at_call 41;go_loud (refine Calls.mono HC1.out ?_;rintro e w2 ⟨G,cp,rfl,g1,g2,g3,g4⟩;obtain⟨t52,f52⟩:=HT5.out _ g4;have HG:Hid _:=And.intro g1 (And.intro g2 (And.intro g3 g4));clear g1 g2 g3 g4))
   go_ret
   obtain⟨g1,g2,g3,g4⟩:=HG.out
   obtain⟨q1,q2,q3⟩:=HQ.out _ g4
   exact⟨_,rfl,of_new (by rw[List.length_drop,←HM.out.1]) g3 HN0.out (chg_setCell _ _ _ _ HT2.out),⟨u1,u3,vv,tv,_,q1,q2⟩,q3,Chg.andThen g4.chg (chg_setCell _ _ _ _ rfl)⟩
  ·have d1:cap=fr:=by omega
   have d2:m=fr:=by omega
   have d3:n=0:=by omega
   have HC1:Hid _:=cloneO w g 0 0 0 (xs.drop fr) (by omega) (by rw[List.length_drop];have:=HM.out;omega) hg (fun k hk=>by omega)
   subst d1
   subst d2
   subst d3
   clear HC d
   go_enter Tryz.func214,Tryz.ntmps214
   go_wp2_with (go_at_call 41;go_loud (refine Calls.mono HC1.out ?_;rintro e w2 ⟨G,cp,rfl,g1,g2,g3,g4⟩;obtain⟨t52,f52⟩:=HT5.out _ g4;have HG:Hid _:=And.intro g1 (And.intro g2 (And.intro g3 g4));clear g1 g2 g3 g4))
   go_ret
   obtain⟨g1,g2,g3,g4⟩:=HG.out
   obtain⟨q1,q2,q3⟩:=HQ.out _ g4
   exact⟨_,rfl,of_new (by rw[List.length_drop,←HM.out.1];omega) g3 HN0.out (chg_setCell _ _ _ _ HT2.out),⟨u1,u3,vv,tv,_,q1,q2⟩,q3,Chg.andThen g4.chg (chg_setCell _ _ _ _ rfl)⟩
theorem leaveValC {E:Tqe}{ρ:Nat→Nat}{w:World}{st:LSt}{L:List TkV}{xs:List Nat}(h:Tq E ρ w st L xs){T0:TypeId}{x0:Value}{p:Int}{a1:Option Addr}{n1 c1:Nat}{mp:Option Nat}{b:Bool}(hn:n1≤xs.length)(hl:xs.length≤6000000)
  (hm:∀W,Sem.run Tryz.prog (method 489 T0 x0 "loop.example/s08086/impl.operands") W=.ok (316,.agg #[.int .i64 p,.slice a1 n1 c1]) W)
  (ht:∀W,Sem.run Tryz.prog (Instr.typeAssert (.iface T0 x0) 167 269 true) W=.ok (.tuple #[.agg #[.int .i64 0,.slice none 0 0,.int .i64 0,.string ⟨#[]⟩,.int .i64 0],.bool false]) W)
  {r:Rs (LSt×Nat)} (hv:∀W ov,Tq E ρ W st L (xs.take (xs.length-n1))→OfR W ρ ov (xs.drop (xs.length-n1))→Sco ρ w ρ W→Chg (fun b=>b=E.T) w W→Calls Tryz.prog 216 #[.pointer (some ⟨E.T,0,none⟩),.agg #[.iface T0 x0,.map mp,.bool b],ov] W (TqR E ρ W L (xs.take (xs.length-n1)) r)):
  Calls Tryz.prog 212 #[.pointer (some ⟨E.T,0,none⟩),.agg #[.iface T0 x0,.map mp,.bool b]] w (LvO E ρ w L (xs.take (xs.length-n1)) r):=by
 have HR0:Hid (ρ w.heap.size=0):=by
  obtain⟨_,_,_,_,_,_,hT⟩:=h
  exact hT.rN _ (Nat.le_refl _)
 have HB:Hid _:=tkbox w (.iface T0 x0) (.map mp) (.bool b)
 have HTk:Hid (∀W,Kept 0 0 w W→_):=fun W k=>takeTrC (h.keep k) n1 hn hl
 have HV:Hid _:=hv
 have HLX:Hid ((xs.take (xs.length-n1)).length≤6000000):=by show _≤_;rw[List.length_take];omega
 obtain⟨i0,hi,hz0,hz1,hz2⟩:=info_parts infoI
 clear h hv hn hl
 generalize xs.take (xs.length-n1)=X at*
 generalize xs.drop (xs.length-n1)=ys at*
 go_enter Tryz.func212,Tryz.ntmps212
 go_upto_region 2 with (first
  |(go_at_call 316;refine Calls.mono (operandsS _ _ _ _ _) ?_;rintro e w1 ⟨rfl,k1⟩;obtain⟨K1,y0,y1,y2,y3⟩:=HB.out _ k1;have HK1:Hid _:=And.intro y0 (And.intro y1 (And.intro y2 y3));have HK1w:Hid _:=K1;clear k1 K1 y1 y2)
  |(go_at_call 214;refine Calls.mono (HTk.out _ HK1w.out) ?_;rintro e w2 ⟨v,rfl,ho,hq,hs⟩;obtain⟨a2,c2,rfl⟩:=ho.any;have H2:Hid _:=And.intro ho (And.intro hq hs);clear ho hq hs))
 obtain⟨ho,hq,hs,hch⟩:=H2.out
 obtain⟨y0,y1,y2,y3⟩:=HK1.out
 have hbc:∀o v,w1.cell? ⟨w.heap.size,o,none⟩=some v→w2.cell? ⟨w.heap.size,o,none⟩=some v:=fun o v hv=>(hs.chg.cell (p:=⟨w.heap.size,o,none⟩) y3 (fun q=>q HR0.out)).trans hv
 have q0:=hbc 0 _ y0
 have q1:=hbc 1 _ y1
 have q2:=hbc 2 _ y2
 have q3:=Nat.lt_of_lt_of_le y3 hs.chg.size
 have ka:=kept_alloc 0 0 w2 (.cells #[.int .i64 0,.slice none 0 0,.int .i64 0,.string ⟨#[]⟩,.int .i64 0] 269)
 have r0:=kcell ka q3 q0
 have r1:=kcell ka q3 q1
 have r2:=kcell ka q3 q2
 have r3:=Nat.lt_of_lt_of_le q3 ka.size
 have HQ3:Hid (Tq E ρ (w2.alloc (.cells #[.int .i64 0,.slice none 0 0,.int .i64 0,.string ⟨#[]⟩,.int .i64 0] 269)) st L X):=hq.keep ka
 have HS3:Hid (Sco ρ w ρ (w2.alloc (.cells #[.int .i64 0,.slice none 0 0,.int .i64 0,.string ⟨#[]⟩,.int .i64 0] 269))):=((Sco.kept HK1w.out).trans hs).trans (Sco.kept ka)
 have HVx:Hid (∀W,Kept 0 0 (w2.alloc (.cells #[.int .i64 0,.slice none 0 0,.int .i64 0,.string ⟨#[]⟩,.int .i64 0] 269)) W→Calls Tryz.prog 216 #[.pointer (some ⟨E.T,0,none⟩),.agg #[.iface T0 x0,.map mp,.bool b],.slice a2 ys.length c2] W (TqR E ρ W L X r)):=fun W k=>HV.out W _ ((hq.keep ka).keep k) ((ho.sco (Sco.kept ka)).sco (Sco.kept k)) ((((Sco.kept HK1w.out).trans hs).trans (Sco.kept ka)).trans (Sco.kept k)) (Chg.andThen HK1w.out.chg (Chg.andThen hch (Chg.andThen ka.chg k.chg)))
 clear H2 HK1 ho hq hs hch y0 y1 y2 y3 hbc q1 q2 HV HTk HB
 go_upto_region 5 with fail
 change Code.wp _ _ _ _ (w2.alloc (.cells #[.int .i64 0,.slice none 0 0,.int .i64 0,.string ⟨#[]⟩,.int .i64 0] 269))
 clear q0 q3 ka
 generalize (w2.alloc (.cells #[.int .i64 0,.slice none 0 0,.int .i64 0,.string ⟨#[]⟩,.int .i64 0] 269))=w3 at*
 obtain⟨u1,u3,vv,tv,xv,hB3,hT3⟩:=HQ3.out
 have t5:=hT3.t5
 have hTl:=hT3.lt
 have HX5:Hid (w3.cell? ⟨E.T,5,none⟩=some xv∧E.T<w3.heap.size):=⟨t5,hTl⟩
 clear hB3 hT3
 go_region_law (first
   |((fail_if_success (exfalso;refine absurd hZ5.size ?_));go_simp;go_wp2_with (first|(go_at_call 216;refine Calls.mono (HVx.out _ (by first|exact Kept.refl 0 0 _|exact(Kept.refl 0 0 _).drew)) ?_;rintro e w5 (⟨st5,a5,ρ5,e5,rfl,hq5,hs5,ht5⟩|⟨c,q,e5,rfl,hc5⟩);rotate_left;exact And.intro rfl (.inr ⟨c,q,e5,rfl,HS3.out.bad (Chg.andThen (Kept.chg (by first|exact Kept.refl 0 0 _|exact(Kept.refl 0 0 _).drew)) hc5)⟩);have hZ5:=hs5.chg;obtain⟨u15,u35,vv5,tv5,hB5,hT5⟩:=Tq.sameX hq5 ht5 HX5.out.2 (show World.cell? _ _=_ from HX5.out.1);have H5:Hid _:=And.intro e5 (And.intro hB5 (And.intro hT5 hs5));have t55:=hT5.t5;have t55a:=kcell (kept_alloc 0 0 w5 (.cells #[.int .i64 (a5:Int)] 3)) hT5.lt hT5.t5;have l5:=hT5.lt)|fail))
   |((first|rw[if_pos (by simp[Region.wanted])]|fail "rw");(first|refine wp_append_lies (w5.alloc (.cells #[.int .i64 (a5:Int)] 3)) (.tmp 28) (.tmp 33) 32 rfl E.N 3 i0 (.int .i64 0) 1 8 Tryz.underlying32 hi hz0 hz1 hz2 rfl (by decide) xv X.length (intsN X) ?_ (own_keepJ H5.out.2.2.1.x (kept_alloc 0 0 w5 (.cells #[.int .i64 (a5:Int)] 3))) ⟨w5.heap.size,0,none⟩ 1 1 [.int .i64 (a5:Int)] ?_ rfl (cell_one_new _ _ _) ?_ (by decide) ?_ ?_ ?_ _ rfl ?_|fail "refine");(focus first|rfl|simp[Act.eval]|fail "e1");(focus first|rfl|simp[Act.eval]|fail "e2");(focus first|(intro u hu;cases hu with|head=>rfl|tail _ h=>cases h)|fail "e3");(focus first|(have:=HLX.out;unfold maxLen;omega)|fail "e4");(focus first|(have:=HLX.out;omega)|fail "e5");(focus first|exact Nat.le_trans H5.out.2.2.1.sz (kept_alloc 0 0 w5 _).size|fail "e6");(first|intro g9 cap9 w9 hown9 hg9 hat9 hlt9|fail "intro");(first|have m3:=far_T H5.out.2.2.1 hg9|fail "m3");(first|have mf3:=far_F H5.out.2.2.1 hg9|fail "mf3")))
 all_goals
  obtain⟨e5,hB5,hT5,hs5⟩:=H5.out
  have ka:=kept_alloc 0 0 w5 (.cells #[.int .i64 (a5:Int)] 3)
  obtain⟨ρ9,f1,f2,f3⟩:=Tq.pushX (a:=a5) (n:=X.length+1) (hB5.chg (ka.chg (S:=fun _=>False)) (fun _ _ q=>q.elim) (fun _ _=>rfl)) (hT5.chg (ka.chg (S:=fun _=>False)) (fun _ _ q=>q.elim) (fun _ _=>rfl) (fun b hb=>hT5.rN b (Nat.le_trans ka.size hb))) (chg_grow hg9) hat9 hlt9 (by rw[List.length_append];rfl) (by unfold intsN at hown9 ⊢;rw[List.map_append];exact hown9)
  have HF9:Hid _:=And.intro f1 (And.intro f2 ((HS3.out.trans (Sco.trans (Sco.kept (by first|exact Kept.refl 0 0 _|exact(Kept.refl 0 0 _).drew)) hs5)).trans ((Sco.kept ka).trans f3)))
  have HE9:Hid _:=e5
  clear f1 f2 f3 ka hown9 hg9 hat9 hlt9 e5 hB5 hT5 hs5
  go_wp2
  go_end0
  exact .inl ⟨st5,a5,ρ9,by first|exact HE9.out|rfl,rfl,⟨_,_,_,_,_,HF9.out.1,HF9.out.2.1⟩,HF9.out.2.2⟩
end Go.Proofs.YtgamjhpebmmjcaaGreatDoor
namespace Go.Proofs.YtgamjhpebmmjcaaGreatDoor
set_option maxRecDepth 100000
set_option maxHeartbeats 40000000
open Go.RowKit Flt
theorem prm_map {W:World}{ρ:Nat→Nat}{p:Value}{loc:Loc}(h:PrM W ρ p loc):∃mp,p=.map mp:=by
 rcases h with⟨e,_⟩|⟨q,e,_⟩
 ·exact⟨none,e⟩
 ·exact⟨some q,e⟩
theorem NdL.one {W:World}{M:Nat→Prop}{v:Value}{e:Ex}(h:Nd W M v e):NdL W M [v] [e]:=NdL.snoc (NdL.nil W M) h
def EnR (E:Tqe)(ρ:Nat→Nat)(w:World)(st:LSt)(L:List TkV)(xs:List Nat)(loc:Loc)(e0:Ex)(e:Ending)(w':World):Prop:=
 match entE st loc e0 with
 |some (c,q)=>e=Thr c (q:Nat)∧Kept 0 0 w w'
 |none=>EnO E ρ w st L xs loc (kidsE e0) e w'
theorem rw_nil (W:World)(M:Nat→Prop):Rw W M (.slice none 0 0) []:=⟨World.ownsRow_nil W 0 167 1,fun b e=>by cases e⟩
def LvR (E:Tqe)(ρ:Nat→Nat)(w:World)(S:List TkV)(r:Rs Cnf)(e:Ending)(w':World):Prop:=
 (∃c ks ρ',r=.ok c∧e=.returned (.tuple #[])∧Tq E ρ' w' c.st (ks++S) c.xs∧c.ks=ks.map (·.t)++S.map (·.t)∧Sco ρ w ρ' w')∨(∃c p,r=.error (c,p)∧e=Thr c (p:Nat)∧Chg (fun b=>ρ b≠0) w w')
end Go.Proofs.YtgamjhpebmmjcaaGreatDoor
namespace Go.Proofs.YtgamjhpebmmjcaaGreatDoor
set_option maxRecDepth 100000
set_option maxHeartbeats 40000000
open Go.RowKit Flt
attribute [local go_sem] alloc_drewN setCell_drewN run_store_float fld0 fld1 fld2 mkF
theorem TqT.top {E:Tqe}{ρ:Nat→Nat}{W:World}{names:List Bdg}{calls:Nat}{y:TkV}{S:List TkV}{xs:List Nat}{tv xv:Value}(h:TqT E ρ W names calls (y::S) xs tv xv):∃g cap,tv=.slice (some ⟨g,0,none⟩) (S.length+1) cap∧g<W.heap.size∧W.cell? ⟨g,S.length*3,none⟩=some y.v∧W.cell? ⟨g,S.length*3+1,none⟩=some y.p∧W.cell? ⟨g,S.length*3+2,none⟩=some (.bool y.t.ent)∧S.length+1≤cap:=by
 rcases h.k.2 with⟨_,e2⟩|⟨g,cap,cur,e1,b1,b2,b3,_⟩
 ·simp at e2
 ·have hb:tv.ownBlock=some g:=by rw[e1];rfl
  have hc:=h.k.cells hb
  have hl:(tkC S.reverse).length=S.length*3:=by rw[tkC_len,List.length_reverse]
  have hx:∀j u,y.cells[j]? =some u→(tkC (y::S).reverse)[S.length*3+j]? =some u:=fun j u hu=>by
   rw[List.reverse_cons,tkC_app,tkC_one,List.getElem?_append_right (by rw[hl];omega),hl,Nat.add_sub_cancel_left]
   exact hu
  refine⟨g,cap,by rw[e1];rfl,(own_blkV h.k hb).2,?_,?_,?_,b3⟩
  ·have:=hc (S.length*3+0) _ (hx 0 _ rfl)
   rwa [add_addr,Nat.zero_add,Nat.add_zero] at this
  ·have:=hc (S.length*3+1) _ (hx 1 _ rfl)
   rwa [add_addr,Nat.zero_add] at this
  ·have:=hc (S.length*3+2) _ (hx 2 _ rfl)
   rwa [add_addr,Nat.zero_add] at this
theorem Tq.pop {E:Tqe}{ρ:Nat→Nat}{W:World}{ins:List Int}{vs:List Vl}{outs:List Int}{names:List Bdg}{calls:Nat}{y:TkV}{S:List TkV}{xs:List Nat}{u1 u3 vv xv:Value}{g cap:Nat}
  (hB:TqB E ρ W ins vs outs u1 u3 vv) (hT:TqT E ρ W names calls (y::S) xs (.slice (some ⟨g,0,none⟩) (S.length+1) cap) xv):
  TqB E ρ (W.setCell ⟨E.T,4,none⟩ (.slice (some ⟨g,0,none⟩) S.length cap)) ins vs outs u1 u3 vv∧TqT E ρ (W.setCell ⟨E.T,4,none⟩ (.slice (some ⟨g,0,none⟩) S.length cap)) names calls S xs (.slice (some ⟨g,0,none⟩) S.length cap) xv∧Sco ρ W ρ (W.setCell ⟨E.T,4,none⟩ (.slice (some ⟨g,0,none⟩) S.length cap)):=by
 have c2:Chg (fun b=>b=E.T) W (W.setCell ⟨E.T,4,none⟩ (.slice (some ⟨g,0,none⟩) S.length cap)):=chg_setCell _ _ _ _ rfl
 have hrow:W.ownsRow E.N 296 3 (.slice (some ⟨g,0,none⟩) S.length cap) S.length (tkC S.reverse):=by
  rcases hT.k.2 with⟨e1,_⟩|⟨g',cap',cur,e1,b1,b2,b3,b4,b5,b6⟩
  ·cases e1
  ·cases e1
   refine⟨by rw[tkC_len,List.length_reverse],.inr ⟨g,cap,cur,rfl,b1,b2,by rw[List.length_cons] at b3;omega,b4,b5,?_⟩⟩
   have hl:(tkC S.reverse).length=S.length*3:=by rw[tkC_len,List.length_reverse]
   have:=congrArg (List.take (S.length*3)) b6
   rw[List.take_take,Nat.min_eq_left (by rw[List.length_cons];omega),List.reverse_cons,tkC_app,List.take_append_of_le_length (by rw[hl];exact Nat.le_refl _)] at this
   exact this.trans (List.take_of_length_le (by rw[hl];exact Nat.le_refl _))
 have h2:=hT.rT
 refine⟨hB.chg c2 (fun b _ q=>by rw[q,h2];decide) (fun _ _=>rfl),TqT.own (L':=S) (xs':=xs) hT c2 (fun b _ q=>.inl (by rw[q];exact h2)) (fun _ _=>rfl) (fun b hb=>hT.rN b (Nat.le_trans c2.size hb)) (hT.toTcC.set4 _) (own_chg hrow c2 (fun b e q=>?_)) (fun b e=>hT.rk b (by simpa[Value.ownBlock] using e)) (own_chg hT.x c2 (fun b e q=>?_)) hT.rx (fun z hz=>hT.l z (List.mem_cons_of_mem _ hz)),Sco.of c2 (fun b _ q=>by rw[q,h2];decide) (fun _ _=>rfl)⟩
 ·have:=hT.rk b (by simpa[Value.ownBlock] using e)
  have q:b=E.T:=q
  rw[q,h2] at this;omega
 ·have:=hT.rx b e
  have q:b=E.T:=q
  rw[q,h2] at this;omega
theorem Tq.mark {E:Tqe}{ρ:Nat→Nat}{W:World}{ins:List Int}{vs:List Vl}{outs:List Int}{names:List Bdg}{calls:Nat}{v p:Value}{e:Ex}{loc:Loc}{b0:Bool}{S:List TkV}{xs:List Nat}{u1 u3 vv xv:Value}{g cap:Nat}
  (hB:TqB E ρ W ins vs outs u1 u3 vv) (hT:TqT E ρ W names calls (⟨v,p,⟨e,loc,b0⟩⟩::S) xs (.slice (some ⟨g,0,none⟩) (S.length+1) cap) xv):
  TqB E ρ (W.setCell ⟨g,S.length*3+2,none⟩ (.bool true)) ins vs outs u1 u3 vv∧TqT E ρ (W.setCell ⟨g,S.length*3+2,none⟩ (.bool true)) names calls (⟨v,p,⟨e,loc,true⟩⟩::S) xs (.slice (some ⟨g,0,none⟩) (S.length+1) cap) xv∧Sco ρ W ρ (W.setCell ⟨g,S.length*3+2,none⟩ (.bool true)):=by
 have c2:Chg (fun b=>b=g) W (W.setCell ⟨g,S.length*3+2,none⟩ (.bool true)):=chg_setCell _ _ _ _ rfl
 have h8:ρ g=8:=hT.rk g rfl
 have hgT:¬E.T=g:=fun q=>by have:=hT.rT;rw[q,h8] at this;omega
 have hrow:(W.setCell ⟨g,S.length*3+2,none⟩ (.bool true)).ownsRow E.N 296 3 (.slice (some ⟨g,0,none⟩) (S.length+1) cap) ((⟨v,p,⟨e,loc,true⟩⟩:TkV)::S).length (tkC ((⟨v,p,⟨e,loc,true⟩⟩:TkV)::S).reverse):=by
  rcases hT.k.2 with⟨e1,_⟩|⟨g',cap',cur,e1,b1,b2,b3,b4,b5,b6⟩
  ·cases e1
  ·cases e1
   refine⟨by rw[tkC_len,List.length_reverse],.inr ⟨g,cap,_,rfl,b1,heap_setCell_same W g _ cur _ _ b2,b3,b4,by rw[Array.size_setIfInBounds];exact b5,?_⟩⟩
   have hl:(tkC S.reverse).length=S.length*3:=by rw[tkC_len,List.length_reverse]
   rw[Array.toList_setIfInBounds,List.take_set]
   have b6':List.take ((S.length+1)*3) cur.toList=tkC ((⟨v,p,⟨e,loc,b0⟩⟩:TkV)::S).reverse:=b6
   rw[show((⟨v,p,⟨e,loc,true⟩⟩:TkV)::S).length=S.length+1 from rfl,b6',List.reverse_cons,List.reverse_cons,tkC_app,tkC_app,tkC_one,tkC_one,List.set_append_right _ _ (by rw[hl];omega),hl,Nat.add_sub_cancel_left]
   rfl
 refine⟨hB.chg c2 (fun b _ q=>by rw[q,h8];decide) (fun _ _=>rfl),TqT.own (L':=⟨v,p,⟨e,loc,true⟩⟩::S) (xs':=xs) hT c2 (fun b _ q=>.inr (.inl (by rw[q];exact h8))) (fun _ _=>rfl) (fun b hb=>hT.rN b (Nat.le_trans c2.size hb)) (hT.toTcC.chg c2 hgT) hrow hT.rk (own_chg hT.x c2 (fun b e q=>?_)) hT.rx (fun z hz=>?_),Sco.of c2 (fun b _ q=>by rw[q,h8];decide) (fun _ _=>rfl)⟩
 ·have:=hT.rx b e
  have q:b=g:=q
  rw[q,h8] at this;omega
 ·rcases List.mem_cons.1 hz with rfl|hz
  ·exact hT.l ⟨v,p,⟨e,loc,b0⟩⟩ (List.mem_cons_self ..)
  ·exact hT.l z (List.mem_cons_of_mem _ hz)
end Go.Proofs.YtgamjhpebmmjcaaGreatDoor
namespace Go.Proofs.YtgamjhpebmmjcaaGreatDoor
set_option maxRecDepth 100000
set_option maxHeartbeats 40000000
open Go.RowKit Flt
attribute [local go_sem] alloc_drewN setCell_drewN run_store_float fld0 fld1 fld2 mkF
theorem kids_le:∀(es:List Ex),es.length≤szL es
 |[]=>Nat.le_refl _
 |e::r=>by
  have:=kids_le r
  have:=sz_pos e
  rw[szL,List.length_cons]
  omega
theorem oneL_bad {r:Rs (LSt×Nat)}{c:Int}{p:Nat}(h:some (oneL r)=some (.error (c,p))):r=.error (c,p):=by
 cases r with
 |error q=>have:q=(c,p):=by injection h with h;injection h
           rw[this]
 |ok z=>obtain⟨s,a⟩:=z;injection h with h;cases h
def TcO (E:Tqe)(ρ:Nat→Nat)(w:World)(r:Rs (LSt×Nat))(e:Ending)(w':World):Prop:=
 (∃st' a ρ',r=.ok (st',a)∧e=.returned (.int .i64 (a:Int))∧Tq E ρ' w' st' [] []∧Sco ρ w ρ' w')∨(∃c p,r=.error (c,p)∧e=Thr c (p:Nat)∧Chg (fun b=>ρ b≠0) w w')
end Go.Proofs.YtgamjhpebmmjcaaGreatDoor
namespace Go.Proofs.YtgamjhpebmmjcaaGreatDoor
set_option maxRecDepth 100000
set_option maxHeartbeats 40000000
open Go.RowKit Flt
attribute [local go_sem] alloc_drewN setCell_drewN run_store_float fld0 fld1 fld2 mkF
def TrG (I:LSt→List Tsk→List Nat→Prop)(E:Tqe)(ρ:Nat→Nat)(w:World)(R:Rs (LSt×List Nat))(k:Nat)(W:World):Prop:=
 ∃ρ' st L xs,Tq E ρ' W st L xs∧Sco ρ w ρ' W∧I st (L.map (·.t)) xs∧runC k st (L.map (·.t)) xs=some R
theorem traceG {I:LSt→List Tsk→List Nat→Prop}{E:Tqe}(hIb:∀st ks xs,I st ks xs→ks.length≤5010000∧xs.length≤5010000)(hIe:∀st e loc S xs c,I st (⟨e,loc,false⟩::S) xs→enterC st ⟨e,loc,false⟩ S xs=.ok c→I c.st c.ks c.xs)(hIl:∀st e loc S xs c,I st (⟨e,loc,true⟩::S) xs→(kidsE e).length≤xs.length→leaveC st ⟨e,loc,true⟩ S xs=.ok c→I c.st c.ks c.xs)
  (hEn:∀(ρ:Nat→Nat) (W:World) (st:LSt) (v p:Value) (e:Ex) (loc:Loc) (S:List TkV) (xs:List Nat),Tq E ρ W st (⟨v,p,⟨e,loc,true⟩⟩::S) xs→I st (⟨e,loc,false⟩::S.map (·.t)) xs→Calls Tryz.prog 213 #[.pointer (some ⟨E.T,0,none⟩),.agg #[v,p,.bool false]] W (EnR E ρ W st (⟨v,p,⟨e,loc,true⟩⟩::S) xs loc e))
  (hLv:∀(ρ:Nat→Nat) (W:World) (st:LSt) (v p:Value) (e:Ex) (loc:Loc) (S:List TkV) (xs:List Nat),Tq E ρ W st S xs→I st (⟨e,loc,true⟩::S.map (·.t)) xs→Nd W (fun b=>b<E.N) v e→PrM W ρ p loc→ENk e→(kidsE e).length≤xs.length→Calls Tryz.prog 212 #[.pointer (some ⟨E.T,0,none⟩),.agg #[v,p,.bool true]] W (LvR E ρ W S (leaveC st ⟨e,loc,true⟩ (S.map (·.t)) xs)))
   {ρ:Nat→Nat} {w:World} {st:LSt} (h:Tq E ρ w st [] []) {T0:TypeId} {y0:Value} {e0:Ex} (hnd:Nd w (fun b=>b<E.N) (.iface T0 y0) e0) (hk:ENk e0) (hc:I st [mkT [] e0] []) {n:Nat} {r:Rs (LSt×Nat)} (hr:runC n st [mkT [] e0] []=some (oneL r)):
  Calls Tryz.prog 210 #[.pointer (some ⟨E.T,0,none⟩),.iface T0 y0] w (TcO E ρ w r):=by
 have HBg:Hid _:=beginS h (by decide) hnd hk (mp:=none) (loc:=[]) (.inl ⟨rfl,rfl⟩)
 have HIb:Hid _:=hIb
 have HIe:Hid _:=hIe
 have HIl:Hid _:=hIl
 have HEn0:Hid _:=hEn
 have HLv0:Hid _:=hLv
 have HC:Hid _:=hc
 have HR:Hid _:=hr
 clear h hnd hk hc hr hIb hIe hIl hEn hLv
 go_enter Tryz.func210,Tryz.ntmps210
 go_upto_region 2 with (go_at_call 211;refine Calls.mono HBg.out ?_;rintro e w1 ⟨rfl,ρ1,q1,s1⟩;have H1:Hid _:=And.intro q1 s1;clear q1 s1)
 have HL0:Hid (TrG I E ρ w (oneL r) n w1):=⟨ρ1,st,_,[],H1.out.1,H1.out.2,HC.out,HR.out⟩
 clear H1 HBg HC HR
 go_loopg [] n (fun q W=>Hid (TrG I E ρ w (oneL r) q W))
 case atStart=>exact HL0
 case round=>
  obtain⟨ρ2,st2,L,xs2,hq,hs,hcg,hrun⟩:=hrel.out
  clear hrel
  obtain⟨u1,u3,vv,tv,xv,hB,hT⟩:=hq
  have t4:=hT.t4
  have f4:=hT.fz 4
  have hTl:=hT.lt
  cases L with
  |nil=>
   have hR:oneL r=.ok (st2,xs2):=by
    have:runC gk st2 [] xs2=some (.ok (st2,xs2)):=by cases gk<;>rfl
    exact Option.some.inj (hrun.symm.trans this)
   obtain⟨a,hra,hxa⟩:∃a,r=.ok (st2,a)∧xs2=[a]:=by
    cases r with
    |error q=>cases hR
    |ok z=>
     obtain⟨s',a'⟩:=z
     have:(s',[a'])=(st2,xs2):=by injection hR
     cases this
     exact⟨a',rfl,rfl⟩
   subst hxa
   obtain⟨aT,cT,rfl⟩:∃aT cT,tv=.slice aT 0 cT:=by
    rcases hT.k.2 with⟨e1,_⟩|⟨g,cap,cur,e1,_⟩
    ·exact⟨none,0,e1⟩
    ·exact⟨_,cap,e1⟩
   have HTk:Hid (Calls Tryz.prog 214 #[.pointer (some ⟨E.T,0,none⟩),.int .i64 1] wr fun e w'=>∃G c,e=.returned (.slice (some ⟨G,0,none⟩) 1 c)∧w'.cell? ⟨G,0,none⟩=some (.int .i64 (a:Int))∧Tq E ρ2 w' st2 [] []∧Sco ρ2 wr ρ2 w'):=by
    refine Calls.mono (takeTrS (E:=E) (ρ:=ρ2) (w:=wr) (st:=st2) (L:=[]) (xs:=[a]) ⟨u1,u3,vv,_,xv,hB,hT⟩ 1 (Nat.le_refl _) (by simp)) ?_
    rintro e w2 ⟨v,rfl,ho,hq2,hs2⟩
    obtain⟨G2,c2,rfl⟩:=ho.form (by simp)
    exact⟨G2,c2,rfl,ho.cells.2 0 (by simp),hq2,hs2⟩
   have HS:Hid (Sco ρ w ρ2 wr):=hs
   have HRa:Hid (r=.ok (st2,a)):=hra
   clear hB hT hs hcg hrun hR hra f4
   go_wp2_with (go_at_call 214;refine Calls.mono HTk.out ?_;rintro e w2 ⟨G2,c2,rfl,z0,hq2,hs2⟩;have H2:Hid _:=And.intro hq2 hs2;clear hq2 hs2)
   go_ret
   exact .inl ⟨st2,a,ρ2,HRa.out,rfl,H2.out.1,HS.out.trans H2.out.2⟩
  |cons y S=>
   obtain⟨v,p,e1,loc,ent⟩:=y
   match gk,hrun with
   |0,hrun=>cases hrun
   |q+1,hrun=>
    obtain⟨g,cap,htv,hgl,d0,d1,d2,hcap⟩:=hT.top
    subst htv
    simp only at d0 d1 d2
    obtain⟨hnd,hpr,hk⟩:=hT.l _ (List.mem_cons_self ..)
    simp only at hnd hpr hk
    obtain⟨Tv,xv0,rfl⟩:=hnd.iface
    obtain⟨mp,rfl⟩:=prm_map hpr
    have hSl:S.length≤6000000:=by have:=(HIb.out _ _ _ hcg).1;simp at this;omega
    have ka:=kept_alloc 0 0 wr (.cells #[.iface Tv xv0,.map mp,.bool ent] 296)
    have hB3:=hB.chg (ka.chg (S:=fun _=>False)) (fun _ _ q=>q.elim) (fun _ _=>rfl)
    have hT3:=hT.chg (ka.chg (S:=fun _=>False)) (fun _ _ q=>q.elim) (fun _ _=>rfl) (fun b hb=>hT.rN b (Nat.le_trans ka.size hb))
    have HQ3:Hid (TqB E ρ2 (wr.alloc (.cells #[.iface Tv xv0,.map mp,.bool ent] 296)) st2.ins st2.vs st2.outs u1 u3 vv∧TqT E ρ2 (wr.alloc (.cells #[.iface Tv xv0,.map mp,.bool ent] 296)) st2.names st2.calls (⟨.iface Tv xv0,.map mp,⟨e1,loc,ent⟩⟩::S) xs2 (.slice (some ⟨g,0,none⟩) (S.length+1) cap) xv):=⟨hB3,hT3⟩
    obtain⟨b1,_,b3⟩:=box_at wr _ #[.iface Tv xv0,.map mp,.bool ent] 296 (Kept.refl 0 0 _).chg (S:=fun _=>False) (fun c=>c)
    have n0:(wr.alloc (.cells #[.iface Tv xv0,.map mp,.bool ent] 296)).cell? ⟨wr.heap.size,0,none⟩=some (.iface Tv xv0):=b1 0
    have n1:(wr.alloc (.cells #[.iface Tv xv0,.map mp,.bool ent] 296)).cell? ⟨wr.heap.size,1,none⟩=some (.map mp):=b1 1
    have n2:(wr.alloc (.cells #[.iface Tv xv0,.map mp,.bool ent] 296)).cell? ⟨wr.heap.size,2,none⟩=some (.bool ent):=b1 2
    have e4:=kcell ka hTl t4
    have fe4:(wr.alloc (.cells #[.iface Tv xv0,.map mp,.bool ent] 296)).frozen? ⟨E.T,4,none⟩=false:=hT3.fz 4
    have eg2:=kcell ka hgl d2
    have feg:=own_frz hT3.k (S.length*3+2)
    have hbT:wr.heap.size≠E.T:=by omega
    have hbg:wr.heap.size≠g:=by omega
    have HS3:Hid (Sco ρ w ρ2 (wr.alloc (.cells #[.iface Tv xv0,.map mp,.bool ent] 296))):=hs.trans (Sco.kept ka)
    have HN:Hid (Nd (wr.alloc (.cells #[.iface Tv xv0,.map mp,.bool ent] 296)) (fun b=>b<E.N) (.iface Tv xv0) e1∧PrM (wr.alloc (.cells #[.iface Tv xv0,.map mp,.bool ent] 296)) ρ2 (.map mp) loc∧ENk e1):=hT3.l _ (List.mem_cons_self ..)
    have hTl3:E.T<(wr.alloc (.cells #[.iface Tv xv0,.map mp,.bool ent] 296)).heap.size:=hT3.lt
    have hgl3:g<(wr.alloc (.cells #[.iface Tv xv0,.map mp,.bool ent] 296)).heap.size:=Nat.lt_of_lt_of_le hgl ka.size
    have HG:Hid _:=hcg
    have HRun:Hid _:=hrun
    clear hB hT hB3 hT3 b1 hs hnd hpr hk ka hcg hrun
    have hm0:(0:Int)≤(S.length:Int):=by omega
    have hm2:(S.length:Int)≤(S.length:Int)+1:=by omega
    go_upto_region 5 with fail
    change Code.wp _ _ _ _ (wr.alloc (.cells #[.iface Tv xv0,.map mp,.bool ent] 296))
    clear t4 f4 d0 d1 d2 hTl hgl
    generalize (wr.alloc (.cells #[.iface Tv xv0,.map mp,.bool ent] 296))=w3 at*
    generalize wr.heap.size=bx at*
    cases ent with
    |true=>
     have hrun:=HRun.out
     have hun:runC (q+1) st2 (⟨e1,loc,true⟩::S.map (·.t)) xs2=if xs2.length<(kidsE e1).length then none else match leaveC st2 ⟨e1,loc,true⟩ (S.map (·.t)) xs2 with|.error q=>some (.error q)|.ok c=>runC q c.st c.ks c.xs:=by
      rw[runC,if_pos rfl]
      rfl
     have hrun2:=hun.symm.trans hrun
     by_cases hkl:xs2.length<(kidsE e1).length
     ·rw[if_pos hkl] at hrun2;cases hrun2
     ·rw[if_neg hkl] at hrun2
      obtain⟨hBp,hTp,hsp⟩:=Tq.pop HQ3.out.1 HQ3.out.2
      have hc4:Chg (fun b=>b=E.T) w3 (w3.setCell ⟨E.T,4,none⟩ (.slice (some ⟨g,0,none⟩) S.length cap)):=chg_setCell _ _ _ _ rfl
      have hT2:=HQ3.out.2.rT
      have h0N:=HQ3.out.2.r0
      have HLv:Hid _:=HLv0.out ρ2 _ st2 _ _ e1 loc S xs2 (⟨u1,u3,vv,_,xv,hBp,hTp⟩:Tq E ρ2 _ st2 S xs2) HG.out (HN.out.1.chg hc4 (fun b qq hb=>by have qq:b=E.T:=qq;have h1:=h0N b hb;rw[qq] at h1;omega)) (HN.out.2.1.chg hc4 (fun b qq=>by have qq:b=E.T:=qq;rw[qq,hT2];decide) (fun _ _=>rfl)) HN.out.2.2 (by omega)
      have HSp:Hid (Sco ρ w ρ2 (w3.setCell ⟨E.T,4,none⟩ (.slice (some ⟨g,0,none⟩) S.length cap))):=HS3.out.trans hsp
      have HRn:Hid _:=hrun2
      have HLg:Hid (∀c,leaveC st2 ⟨e1,loc,true⟩ (S.map (·.t)) xs2=.ok c→I c.st c.ks c.xs):=fun c hcc=>HIl.out _ _ _ _ _ c HG.out (by omega) hcc
      clear hrun hun hrun2 hkl hBp hTp hsp hc4 hT2 h0N HQ3 HN HG HRun HS3
      generalize leaveC st2 ⟨e1,loc,true⟩ (S.map (·.t)) xs2=rc at HLv HRn HLg
      go_wp2_with (go_at_call 212;refine Calls.mono HLv.out ?_;rintro e w9 (⟨c,ks,ρ9,e9,rfl,q9,k9,s9⟩|⟨c,qq,e9,rfl,c9⟩);rotate_left;exact And.intro rfl (.inr ⟨c,qq,oneL_bad (HRn.out.symm.trans (by rw[e9])),rfl,HSp.out.bad c9⟩);have H9:Hid _:=And.intro e9 (And.intro q9 (And.intro k9 s9));clear e9 q9 k9 s9)
      go_roundg q
      case measure=>omega
      case rel=>
       obtain⟨e9,q9,k9,s9⟩:=H9.out
       have hg9:=HLg.out c e9
       have hr9:=HRn.out
       rw[e9] at hr9
       simp only at hr9
       rw[k9,←List.map_append] at hg9 hr9
       exact⟨ρ9,c.st,ks++S,c.xs,q9,HSp.out.trans s9,hg9,hr9⟩
    |false=>
     have hrun:=HRun.out
     have hun:runC (q+1) st2 (⟨e1,loc,false⟩::S.map (·.t)) xs2=match enterC st2 ⟨e1,loc,false⟩ (S.map (·.t)) xs2 with|.error q=>some (.error q)|.ok c=>runC q c.st c.ks c.xs:=by
      rw[runC,if_neg (by simp)]
      rfl
     have hrun2:=hun.symm.trans hrun
     obtain⟨hBp,hTp,hsp⟩:=Tq.mark HQ3.out.1 HQ3.out.2
     have HSp:Hid (Sco ρ w ρ2 (w3.setCell ⟨g,S.length*3+2,none⟩ (.bool true))):=HS3.out.trans hsp
     have hq4:Tq E ρ2 (w3.setCell ⟨g,S.length*3+2,none⟩ (.bool true)) st2 (⟨.iface Tv xv0,.map mp,⟨e1,loc,true⟩⟩::S) xs2:=⟨u1,u3,vv,_,xv,hBp,hTp⟩
     have HGe:Hid (∀c,enterC st2 ⟨e1,loc,false⟩ (S.map (·.t)) xs2=.ok c→I c.st c.ks c.xs):=fun c hcc=>HIe.out _ _ _ _ _ c HG.out hcc
     cases hent:entE st2 loc e1 with
     |some z=>
      obtain⟨c0,q0⟩:=z
      have hec:enterC st2 ⟨e1,loc,false⟩ (S.map (·.t)) xs2=.error (c0,q0):=by
       unfold enterC
       simp only[hent]
      rw[hec] at hrun2
      simp only at hrun2
      have HEn:Hid _:=HEn0.out _ _ _ _ _ _ _ _ _ hq4 HG.out
      unfold EnR at HEn
      rw[hent] at HEn
      simp only at HEn
      have HRr:Hid (r=.error (c0,q0)):=oneL_bad hrun2.symm
      clear hrun hun hrun2 hBp hTp hsp hq4 HGe hec HQ3 HN HG HRun HS3 hent
      go_wp2_with (go_at_call 213;refine Calls.mono HEn.out ?_;rintro e w9 ⟨rfl,k9⟩;exact And.intro rfl (.inr ⟨c0,q0,HRr.out,rfl,HSp.out.bad k9.chg⟩))
     |none=>
      have hec:enterC st2 ⟨e1,loc,false⟩ (S.map (·.t)) xs2=.ok ⟨st2,(kidsE e1).map (fun e=>⟨e,loc,false⟩)++⟨e1,loc,true⟩::S.map (·.t),xs2⟩:=by
       unfold enterC
       simp only[hent]
      have hg9:=HGe.out _ hec
      rw[hec] at hrun2
      simp only at hrun2
      have HEn:Hid _:=HEn0.out _ _ _ _ _ _ _ _ _ hq4 HG.out
      unfold EnR at HEn
      rw[hent] at HEn
      simp only at HEn
      have HRn:Hid _:=hrun2
      have HG9:Hid _:=hg9
      clear hrun hun hrun2 hBp hTp hsp hq4 HGe hec HQ3 HN HG HRun HS3 hent hg9
      go_wp2_with (go_at_call 213;refine Calls.mono HEn.out ?_;rintro e w9 ⟨rfl,ρ9,ks,q9,s9,t9⟩;have H9:Hid _:=And.intro q9 (And.intro s9 t9);clear q9 s9 t9)
      go_roundg q
      case measure=>omega
      case rel=>
       obtain⟨q9,s9,t9⟩:=H9.out
       have he:(kidsE e1).map (fun e=>(⟨e,loc,false⟩:Tsk))++⟨e1,loc,true⟩::S.map (·.t)=(ks++⟨.iface Tv xv0,.map mp,⟨e1,loc,true⟩⟩::S).map (·.t):=by
        rw[List.map_append,List.map_cons,t9]
       have hg9:=HG9.out
       have hr9:=HRn.out
       rw[he] at hg9 hr9
       exact⟨ρ9,st2,_,xs2,q9,HSp.out.trans s9,hg9,hr9⟩
end Go.Proofs.YtgamjhpebmmjcaaGreatDoor
namespace Go.Proofs.YtgamjhpebmmjcaaGreatDoor
set_option maxRecDepth 100000
set_option maxHeartbeats 40000000
open Go.RowKit Flt
def SimE (e:Ex):Prop:=(∃t,e=.num t)∨∃o t,e=.neg o (.num t)
theorem SimE.kids {e:Ex}(h:SimE e):∀x∈kidsE e,SimE x:=by
 rcases h with⟨t,rfl⟩|⟨o,t,rfl⟩
 ·intro x hx;cases hx
 ·intro x hx
  have:x=.num t:=by simpa[kidsE] using hx
  exact .inl ⟨t,this⟩
theorem SimE.ent {e:Ex}(h:SimE e)(st:LSt)(loc:Loc):entE st loc e=none:=by
 rcases h with⟨t,rfl⟩|⟨o,t,rfl⟩<;>rfl
theorem SimE.call {e:Ex}(h:SimE e):isCall e=false:=by
 rcases h with⟨t,rfl⟩|⟨o,t,rfl⟩<;>rfl
structure InG (st:LSt)(ks:List Tsk)(xs:List Nat):Prop where
 g:Gd st
 k:∀t∈ks,SimE t.e
 x:∀y∈xs,y<st.vs.length
 w:xs.length+wtS ks≤10000
theorem InG.len {st:LSt}{ks:List Tsk}{xs:List Nat}(h:InG st ks xs):ks.length≤5010000∧xs.length≤5010000:=by
 have:=wtS_len ks
 have:=h.w
 omega
theorem InG.enter {st:LSt}{e:Ex}{loc:Loc}{S:List Tsk}{xs:List Nat}{c:Cnf}(h:InG st (⟨e,loc,false⟩::S) xs)(hc:enterC st ⟨e,loc,false⟩ S xs=.ok c):InG c.st c.ks c.xs:=by
 have he:=h.k _ (List.mem_cons_self ..)
 unfold enterC at hc
 rw[he.ent] at hc
 cases hc
 refine⟨h.g,fun y hy=>?_,h.x,?_⟩
 ·rcases List.mem_append.1 hy with hy|hy
  ·obtain⟨e',he',rfl⟩:=List.mem_map.1 hy
   exact he.kids e' he'
  ·rcases List.mem_cons.1 hy with rfl|hy
   ·exact he
   ·exact h.k y (List.mem_cons_of_mem _ hy)
 ·have hw:=h.w
  have e1:wtS ((kidsE e).map (fun e=>(⟨e,loc,false⟩:Tsk)))=szL (kidsE e):=wtS_map loc _
  have e2:=sz_kids e
  show xs.length+wtS ((kidsE e).map (fun e=>(⟨e,loc,false⟩:Tsk))++⟨e,loc,true⟩::S)≤10000
  rw[wtS_app,e1]
  rw[wtS] at hw ⊢
  have e3:wtK ⟨e,loc,false⟩=szE e:=rfl
  have e4:wtK ⟨e,loc,true⟩=1:=rfl
  omega
theorem sim_val {st st':LSt}{loc:Loc}{e:Ex}{ys:List Nat}{a:Nat}(g:Gd st)(he:SimE e)(hy:∀y∈ys,y<st.vs.length)(hn:ys.length=(kidsE e).length)(h:valE st loc e ys=.ok (st',a)):Gd st'∧a<st'.vs.length∧st.vs.length≤st'.vs.length:=by
 have key:RsG st (valE st loc e ys):=by
  rcases he with⟨t,rfl⟩|⟨o,t,rfl⟩
  ·exact rsg_put g (g.v.p1 ⟨by decide,by decide⟩ (cop_lt _ _ _)) _
  ·exact rsg_put g (g.v.one (.inl rfl) (ln_of (getD_mem hy (by rw[hn];exact Nat.le_of_ble_eq_true rfl)))) _
 have q:=key st' a h
 exact⟨q.1.g,q.2,q.1.n⟩
theorem InG.leave {st:LSt}{e:Ex}{loc:Loc}{S:List Tsk}{xs:List Nat}{c:Cnf}(h:InG st (⟨e,loc,true⟩::S) xs)(hn:(kidsE e).length≤xs.length)(hc:leaveC st ⟨e,loc,true⟩ S xs=.ok c):InG c.st c.ks c.xs:=by
 have he:SimE e:=h.k _ (List.mem_cons_self ..)
 have hl:leaveC st ⟨e,loc,true⟩ S xs=valC (valE st loc e (xs.drop (xs.length-(kidsE e).length))) S (xs.take (xs.length-(kidsE e).length)):=by
  rcases he with⟨t,rfl⟩|⟨o,t,rfl⟩<;>rfl
 rw[hl] at hc
 cases hv:valE st loc e (xs.drop (xs.length-(kidsE e).length)) with
 |error q=>rw[hv] at hc;cases hc
 |ok z=>
  obtain⟨st',a⟩:=z
  rw[hv] at hc
  cases hc
  obtain⟨g',ha,hle⟩:=sim_val h.g he (fun y hy=>h.x y (List.mem_of_mem_drop hy)) (by rw[List.length_drop];omega) hv
  refine⟨g',fun t ht=>h.k t (List.mem_cons_of_mem _ ht),fun y hy=>?_,?_⟩
  ·rcases List.mem_append.1 hy with hy|hy
   ·have:=h.x y (List.mem_of_mem_take hy)
    show y<st'.vs.length
    omega
   ·simp only[List.mem_singleton] at hy
    subst hy
    exact ha
  ·have hw:=h.w
   rw[wtS] at hw
   have e4:wtK ⟨e,loc,true⟩=1:=rfl
   show(xs.take (xs.length-(kidsE e).length)++[a]).length+wtS S≤10000
   rw[List.length_append,List.length_take]
   simp only[List.length_cons,List.length_nil]
   omega
end Go.Proofs.YtgamjhpebmmjcaaGreatDoor
namespace Go.Proofs.YtgamjhpebmmjcaaGreatDoor
set_option maxRecDepth 100000
set_option maxHeartbeats 40000000
open Go.RowKit Flt
open Go.ChangeMaps (setBlock)
attribute [local go_sem] alloc_drewN setCell_drewN run_store_float fld0 fld1 fld2 mkF
structure StG (st:LSt):Prop where
 g:Gd st
 m:NmOK st
 s:NmS st.names
 c:st.calls≤500
end Go.Proofs.YtgamjhpebmmjcaaGreatDoor
