import Derived.Test.YtgamjhpebmmjcaaGreatDoorP41
import Derived.Deep.RegionWith
import Derived.Maps.OwnOps
import Derived.Test.YtgamjhpebmmjcaaGreatDoorP06
import Derived.Test.YtgamjhpebmmjcaaGreatDoorP23
namespace Go.Proofs.YtgamjhpebmmjcaaGreatDoor
set_option maxRecDepth 100000
set_option maxHeartbeats 40000000
open Go.RowKit Flt
attribute [local go_sem] alloc_drewN setCell_drewN run_store_float fld0 fld1 fld2 mkF
def Tsm (E:Tqe)(W W':World):Prop:=E.T<W.heap.size→W'.heap[E.T]? =W.heap[E.T]?
theorem Tsm.kept {E:Tqe}{W W':World}(k:Kept 0 0 W W'):Tsm E W W':=fun h=>k.block E.T h (by omega)
theorem Tsm.trans {E:Tqe}{a b c:World}(h:Tsm E a b)(hs:a.heap.size≤b.heap.size)(k:Tsm E b c):Tsm E a c:=fun q=>(k (Nat.lt_of_lt_of_le q hs)).trans (h q)
theorem Tsm.chg {E:Tqe}{W W':World}{S:Nat→Prop}(c:Chg S W W')(h:¬S E.T):Tsm E W W':=fun q=>c.block E.T q h
def TqR (E:Tqe)(ρ:Nat→Nat)(W:World)(L:List TkV)(xs:List Nat)(r:Rs (LSt×Nat))(e:Ending)(W':World):Prop:=
 (∃st' a ρ',r=.ok (st',a)∧e=.returned (.int .i64 (a:Int))∧Tq E ρ' W' st' L xs∧Sco ρ W ρ' W'∧Tsm E W W')∨(∃c p,r=.error (c,p)∧e=Thr c (p:Nat)∧Chg (fun b=>ρ b≠0) W W')
theorem Chg.chain {S:Nat→Prop}{a b c:World}(h:Chg S a b)(k:Chg S b c):Chg S a c:=⟨k.os.trans h.os,k.tape.trans h.tape,k.output.trans h.output,Nat.le_trans h.size k.size,fun i hi hn=>(k.block i (Nat.lt_of_lt_of_le hi h.size) hn).trans (h.block i hi hn)⟩
theorem Sco.bad {ρ ρ':Nat→Nat}{W W' W'':World}(a:Sco ρ W ρ' W')(c:Chg (fun b=>ρ' b≠0) W' W''):Chg (fun b=>ρ b≠0) W W'':=⟨c.os.trans a.chg.os,c.tape.trans a.chg.tape,c.output.trans a.chg.output,Nat.le_trans a.chg.size c.size,fun k hk hn=>by
 rw[c.block k (Nat.lt_of_lt_of_le hk a.chg.size) (by rw[a.ext k hk];exact hn)]
 exact a.chg.block k hk hn⟩
theorem TqR.after {E:Tqe}{ρ ρ':Nat→Nat}{W W' W'':World}{L:List TkV}{xs:List Nat}{r:Rs (LSt×Nat)}{e:Ending}(a:Sco ρ W ρ' W')(t:Tsm E W W')(h:TqR E ρ' W' L xs r e W''):TqR E ρ W L xs r e W'':=by
 rcases h with⟨st',x,ρ2,h1,h2,h3,h4,h5⟩|⟨c,p,h1,h2,h3⟩
 ·exact .inl ⟨st',x,ρ2,h1,h2,h3,a.trans h4,t.trans a.chg.size h5⟩
 ·exact .inr ⟨c,p,h1,h2,a.bad h3⟩
theorem TqR.afterK {E:Tqe}{ρ:Nat→Nat}{W W' W'':World}{L:List TkV}{xs:List Nat}{r:Rs (LSt×Nat)}{e:Ending}(k:Kept 0 0 W W')(h:TqR E ρ W' L xs r e W''):TqR E ρ W L xs r e W'':=TqR.after (Sco.kept k) (Tsm.kept k) h
theorem limS {w:World}{P:Nat}{u1 u3:Value}{vs:List Vl}{base:Nat}{R:Option Nat}{vv:Value}(h:BS w P u1 u3 vs (cellsV vs) base R vv)(hn:0<vs.length):Calls Tryz.prog 201 #[.pointer (some ⟨P,0,none⟩)] w fun e w'=>e=.returned (.bool (!limB vs))∧w'=w:=by
 obtain⟨g,cap,rfl,_,_⟩:=h.read hn
 rcases Nat.lt_or_ge 2000 vs.length with c|c
 ·rw[show limB vs=true from decide_eq_true (.inl c)]
  exact keeps_many w P u1 u3 vs _ base R g cap h c
 ·by_cases d:50000<cellsV vs
  ·rw[show limB vs=true from decide_eq_true (.inr d)]
   exact keeps_cells w P u1 u3 vs _ base R g cap h c d
  ·rw[show limB vs=false from decide_eq_false (by omega)]
   exact keeps_ok w P u1 u3 vs _ base R g cap h c (by omega)
theorem checkLimS {w:World}{T P:Nat}{u1 u3:Value}{vs:List Vl}{base:Nat}{R:Option Nat}{vv:Value}(ht:w.cell? ⟨T,0,none⟩=some (.pointer (some ⟨P,0,none⟩)))(h:BS w P u1 u3 vs (cellsV vs) base R vv)(hn:0<vs.length)(p:Int):
  Calls Tryz.prog 200 #[.pointer (some ⟨T,0,none⟩),.int .i64 p] w fun e w'=>(limB vs=false∧e=.returned (.tuple #[])∧w'=w)∨(limB vs=true∧e=Thr 5 p∧w'=w):=by
 have HL:Hid _:=limS h hn
 clear h hn
 cases hb:limB vs with
 |false=>
  rw[hb] at HL
  clear hb
  go_enter Tryz.func200,Tryz.ntmps200
  go_wp2_with (go_at_call 201;refine Calls.mono HL.out ?_;rintro e w1 ⟨rfl,hw⟩;obtain rfl:=hw.symm)
  go_end0
  exact .inl ⟨trivial,rfl,rfl⟩
 |true=>
  rw[hb] at HL
  clear hb
  go_enter Tryz.func200,Tryz.ntmps200
  go_wp2_with (first|(go_at_call 201;refine Calls.mono HL.out ?_;rintro e w1 ⟨rfl,hw⟩;obtain rfl:=hw.symm)|(go_at_call 60;refine Calls.mono (stopS _ _ _) ?_;rintro e w3 ⟨rfl,hw⟩;obtain rfl:=hw.symm))
  exact⟨rfl,.inr ⟨trivial,rfl,rfl⟩⟩
theorem putS {E:Tqe}{ρ:Nat→Nat}{w:World}{st:LSt}{L:List TkV}{xs:List Nat}(h:Tq E ρ w st L xs)(g:Gd st)(v:Vl)(hl0:-1000000000≤v.len)(hl1:v.len≤1000000000)(p:Nat):
  Calls Tryz.prog 220 #[.pointer (some ⟨E.T,0,none⟩),.int .i64 (p:Int),v.agg] w (TqR E ρ w L xs (putM st v p)):=by
 obtain⟨u1,u3,vv,tv,xv,hB,hT⟩:=h
 have k1:=kept_alloc 0 0 w (vbox v.op v.len v.a v.b v.c v.k)
 have hcp:0≤cellsV st.vs:=cells_pos st.vs (fun j hj=>by have:=g.len j hj;omega)
 have hB1:TqB E ρ (w.alloc (vbox v.op v.len v.a v.b v.c v.k)) st.ins st.vs st.outs u1 u3 vv:=hB.chg (k1.chg (S:=fun _=>False)) (fun _ _ q=>q.elim) (fun _ _=>rfl)
 have hT1:TqT E ρ (w.alloc (vbox v.op v.len v.a v.b v.c v.k)) st.names st.calls L xs tv xv:=hT.chg (k1.chg (S:=fun _=>False)) (fun _ _ q=>q.elim) (fun _ _=>rfl) (fun b hb=>hT.rN b (Nat.le_trans k1.size hb))
 have HV:Hid (∀m,Kept 0 0 (w.alloc (vbox v.op v.len v.a v.b v.c v.k)) m→Calls Tryz.prog 231 #[.pointer (some ⟨E.P,0,none⟩),v.agg] m fun e w'=>e=.returned (.int .i64 (st.vs.length:Nat))∧∃ρ' vv',TqB E ρ' w' st.ins (st.vs++[v]) st.outs u1 u3 vv'∧TqT E ρ' w' st.names st.calls L xs tv xv∧Sco ρ w ρ' w'∧Tsm E w w'):=fun m km=>by
  have hB2:TqB E ρ m st.ins st.vs st.outs u1 u3 vv:=hB1.chg (km.chg (S:=fun _=>False)) (fun _ _ q=>q.elim) (fun _ _=>rfl)
  have hT2:TqT E ρ m st.names st.calls L xs tv xv:=hT1.chg (km.chg (S:=fun _=>False)) (fun _ _ q=>q.elim) (fun _ _=>rfl) (fun b hb=>hT1.rN b (Nat.le_trans km.size hb))
  refine Calls.mono (putVal m E.P u1 u3 st.vs (cellsV st.vs) E.N vv.ownBlock vv v hB2.b (by have:=g.n;omega) (by omega) (by have:=g.c;omega) hl0 hl1) ?_
  rintro e w' ⟨rfl,R',vv',hb,hs⟩
  have hb':BS w' E.P u1 u3 (st.vs++[v]) (cellsV (st.vs++[v])) E.N R' vv':=by rw[cellsV_append];exact hb
  obtain⟨ρ',q1,q2,q3⟩:=Tq.built hB2 hT2 hb' hs
  exact⟨rfl,ρ',vv',q1,q2,(Sco.kept (k1.trans km)).trans q3,(Tsm.kept (k1.trans km)).trans (k1.trans km).size (Tsm.chg hs.chg (fun q=>by
   rcases q with q|q
   ·have:=hT2.rT;rw[q,hB2.rP] at this;omega
   ·have:=hT2.rT;rw[hB2.rR _ q] at this;omega))⟩
 have t0:=hT1.t0
 have hv:=vbox_atJ w v
 obtain⟨v0,v1,v2,v3,v4,v5⟩:=hv
 have hin:st.ins=st.ins:=rfl
 have HP:Hid (putM st v p=if limB (st.vs++[v])=true then .error (5,p) else .ok ({st with vs:=st.vs++[v]},st.vs.length)):=rfl
 generalize putM st v p=r at HP ⊢
 clear hB hT hB1 hT1 hcp g hin
 go_enter Tryz.func220,Tryz.ntmps220
 go_upto_region 1 with fail
 generalize (w.alloc (vbox v.op v.len v.a v.b v.c v.k))=w1 at*
 go_region_with (go_at_call 231;refine Calls.mono (HV.out _ (by first|exact Kept.refl 0 0 _|exact(Kept.refl 0 0 _).drew)) ?_;rintro e w2 ⟨rfl,ρ',vv',q1,q2,q3⟩;have HQ:Hid _:=And.intro q1 (And.intro q2 q3);clear q1 q2 q3)
 all_goals
  have HC:Hid _:=checkLimS HQ.out.2.1.t0 HQ.out.1.b (by simp) (p:Int)
  go_wp2_with (go_at_call 200;refine Calls.mono HC.out ?_;rintro e w3 (⟨hb,rfl,hw⟩|⟨hb,rfl,hw⟩);rotate_left;exact And.intro rfl (.inr ⟨5,p,HP.out.trans (if_pos hb),rfl,by rw[hw];exact HQ.out.2.2.1.chg⟩);obtain rfl:=hw.symm;have HL:Hid _:=hb;clear hb)
  go_ret
  exact .inl ⟨_,_,ρ',HP.out.trans (if_neg (by rw[HL.out];decide)),rfl,⟨u1,u3,vv',tv,xv,HQ.out.1,HQ.out.2.1⟩,HQ.out.2.2⟩
end Go.Proofs.YtgamjhpebmmjcaaGreatDoor
namespace Go.Proofs.YtgamjhpebmmjcaaGreatDoor
set_option maxRecDepth 100000
set_option maxHeartbeats 40000000
open Go.RowKit Flt
attribute [local go_sem] alloc_drewN setCell_drewN run_store_float fld0 fld1 fld2 mkF
theorem cv_tok {t:Tok}(h:t.sym≠[]):cvT t=⟨kindM t.text,t.text,t.pos⟩:=by unfold cvT;rw[if_neg h]
end Go.Proofs.YtgamjhpebmmjcaaGreatDoor
namespace Go.Proofs.YtgamjhpebmmjcaaGreatDoor
set_option maxRecDepth 100000
set_option maxHeartbeats 40000000
open Go.RowKit Flt
attribute [local go_sem] alloc_drewN setCell_drewN run_store_float fld0 fld1 fld2 mkF
theorem infoTa:(Tryz.prog.info? 296).map (fun i=>(i.zero,i.size,i.bytes))=some (some (.agg #[.nilIface,.map none,.bool false]),3,32):=by kernel_rfl
theorem infoTa_parts:∃i0,Tryz.prog.info? 296=some i0∧i0.zero=some (.agg #[.nilIface,.map none,.bool false])∧i0.size=3∧i0.bytes=32:=by
 have h:=infoTa
 cases e:Tryz.prog.info? 296 with
 |none=>rw[e] at h;cases h
 |some i0=>
  rw[e] at h
  simp only[Option.map_some,Option.some.injEq,Prod.mk.injEq] at h
  exact⟨i0,rfl,h.1,h.2.1,h.2.2⟩
theorem wpList_appendTk (w:World){ops:Array Oper}{rest:List Oper}{o:Oper}{a:Act}{Q:Exit→Act→World→Prop}(hgd:o.guard=none)(s x:Operand)
  (ho:o.op=.call {callee:=.builtin .append,args:=#[s,x],argTypes:=#[122,122]})
  (B:Nat) (v:Value) (ys:List TkV) (hs:a.eval s=v) (hown:w.ownsRow B 296 3 v ys.length (tkC ys))
  (ab:Nat) (y:TkV) (h1:y.v.oneCell'=true) (h2:y.p.oneCell'=true) (hx:a.eval x=.slice (some ⟨ab,0,none⟩) 1 1) (c0:w.cell? ⟨ab,0,none⟩=some y.v) (c1:w.cell? ⟨ab,1,none⟩=some y.p) (c2:w.cell? ⟨ab,2,none⟩=some (.bool y.t.ent))
  (h63:ys.length+1≤100000000) (hbase:B≤w.heap.size)
  (h:∀g cap n w',n=(ys++[y]).length→w'.ownsRow B 296 3 (.slice (some ⟨g,0,none⟩) n cap) n (tkC (ys++[y]))→Chg (fun b=>v.ownBlock=some b) w w'→(v.ownBlock=some g∨g=w.heap.size)→g<w'.heap.size→wpList Tryz.prog ops Q rest (a.put o.dst (.slice (some ⟨g,0,none⟩) n cap)) w'):wpList Tryz.prog ops Q (o::rest) a w:=by
 obtain⟨i0,hi,hz0,hz1,hz2⟩:=infoTa_parts
 refine wpList_append_lies w hgd s x 122 ho B 296 i0 _ 3 32 Tryz.underlying122 hi hz0 hz1 hz2 rfl (by decide) v ys.length _ hs hown ⟨ab,0,none⟩ 1 1 y.cells hx rfl ?_ ?_ (by decide) (by unfold maxLen;omega) (by omega) hbase _ rfl ?_
 ·intro j u hj
  match j,hj with
  |0,hj=>cases hj;rw[add_addr,Nat.add_zero];exact c0
  |1,hj=>cases hj;rw[add_addr];exact c1
  |2,hj=>cases hj;rw[add_addr];exact c2
 ·intro u hu
  simp only[TkV.cells,List.mem_cons,List.not_mem_nil,or_false] at hu
  rcases hu with rfl|rfl|rfl
  ·exact h1
  ·exact h2
  ·rfl
 ·intro g cap w' k1 k2 k3 k4
  have e:ys.length+1=(ys++[y]).length:=by rw[List.length_append];rfl
  rw[e,←tkC_one,←tkC_app] at k1
  rw[e]
  exact h g cap _ w' rfl k1 (chg_grow k2) k3 k4
theorem chg_set {S:Nat→Prop}{W W1:World}(c:Chg S W W1)(B o:Nat)(v:Value):Chg (fun b=>S b∨b=B) W (W1.setCell ⟨B,o,none⟩ v):=
 (Chg.chain (S:=fun b=>S b∨b=B) ⟨c.os,c.tape,c.output,c.size,fun k hk hn=>c.block k hk (fun q=>hn (.inl q))⟩ (chg_setCell (S:=fun b=>S b∨b=B) W1 B o v (.inr rfl)))
theorem Tq.push {E:Tqe}{ρ:Nat→Nat}{W W1:World}{ins:List Int}{vs:List Vl}{outs:List Int}{names:List Bdg}{calls:Nat}{L:List TkV}{xs:List Nat}{u1 u3 vv tv xv:Value}{y:TkV}{g n cap:Nat}
  (hB:TqB E ρ W ins vs outs u1 u3 vv) (hT:TqT E ρ W names calls L xs tv xv) (c:Chg (fun b=>tv.ownBlock=some b) W W1) (hg:tv.ownBlock=some g∨g=W.heap.size) (hlt:g<W1.heap.size)
  (hn:n=(L.reverse++[y]).length) (hrow:W1.ownsRow E.N 296 3 (.slice (some ⟨g,0,none⟩) n cap) n (tkC (L.reverse++[y]))) (hy:Nd W (fun b=>b<E.N) y.v y.t.e∧PrM W ρ y.p y.t.loc∧ENk y.t.e):
  ∃ρ',TqB E ρ' (W1.setCell ⟨E.T,4,none⟩ (.slice (some ⟨g,0,none⟩) n cap)) ins vs outs u1 u3 vv∧TqT E ρ' (W1.setCell ⟨E.T,4,none⟩ (.slice (some ⟨g,0,none⟩) n cap)) names calls (y::L) xs (.slice (some ⟨g,0,none⟩) n cap) xv∧Sco ρ W ρ' (W1.setCell ⟨E.T,4,none⟩ (.slice (some ⟨g,0,none⟩) n cap)):=by
 have c2:=chg_set c E.T 4 (.slice (some ⟨g,0,none⟩) n cap)
 have hcol:∀b,(tv.ownBlock=some b∨b=E.T)→ρ b=2∨ρ b=8:=fun b q=>q.elim (fun q=>.inr (hT.rk b q)) (fun q=>.inl (by rw[q];exact hT.rT))
 have hTc:TcC E (W1.setCell ⟨E.T,4,none⟩ (.slice (some ⟨g,0,none⟩) n cap)) calls (.slice (some ⟨g,0,none⟩) n cap) xv:=(hT.toTcC.chg c (fun q=>by have:=hT.rk _ q;have:=hT.rT;omega)).set4 _
 have hgT:∀b,g=b→b≠E.T:=fun b q e=>by
  rcases hg with d|d
  ·have h8:=hT.rk _ d;have:=hT.rT;rw[q,e] at h8;omega
  ·have:=hT.lt;omega
 have hrow2:(W1.setCell ⟨E.T,4,none⟩ (.slice (some ⟨g,0,none⟩) n cap)).ownsRow E.N 296 3 (.slice (some ⟨g,0,none⟩) n cap) (y::L).length (tkC (y::L).reverse):=by
  rw[List.reverse_cons,show(y::L).length=n by rw[hn];simp]
  exact own_setCell hrow (fun q=>hgT _ rfl (by simpa[Value.ownBlock] using q))
 have hx2:(W1.setCell ⟨E.T,4,none⟩ (.slice (some ⟨g,0,none⟩) n cap)).ownsRow E.N 3 1 xv xs.length (intsN xs):=own_chg hT.x c2 (fun b q r=>by have:=hT.rx b q;have:=hcol b r;omega)
 have hsz:(W1.setCell ⟨E.T,4,none⟩ (.slice (some ⟨g,0,none⟩) n cap)).heap.size=W1.heap.size:=by simp[go_sem]
 have fin:∀ρ':Nat→Nat,(∀b,b<W.heap.size→ρ' b=ρ b)→(∀b,W1.heap.size≤b→ρ' b=0)→ρ' g=8→TqB E ρ' (W1.setCell ⟨E.T,4,none⟩ (.slice (some ⟨g,0,none⟩) n cap)) ins vs outs u1 u3 vv∧TqT E ρ' (W1.setCell ⟨E.T,4,none⟩ (.slice (some ⟨g,0,none⟩) n cap)) names calls (y::L) xs (.slice (some ⟨g,0,none⟩) n cap) xv∧Sco ρ W ρ' (W1.setCell ⟨E.T,4,none⟩ (.slice (some ⟨g,0,none⟩) n cap)):=fun ρ' e eN e8=>by
  have rk:∀b,(Value.slice (some ⟨g,0,none⟩) n cap).ownBlock=some b→ρ' b=8:=fun b q=>by
   have:g=b:=by simpa[Value.ownBlock] using q
   rw[←this];exact e8
  have hl:∀z∈y::L,Nd W (fun b=>b<E.N) z.v z.t.e∧PrM W ρ z.p z.t.loc∧ENk z.t.e:=fun z hz=>by
   rcases List.mem_cons.1 hz with rfl|hz
   ·exact hy
   ·exact hT.l z hz
  have hT2:=TqT.own (ρ':=ρ') (L':=y::L) (xs':=xs) hT c2 (fun b _ q=>by have:=hcol b q;omega) e (fun b hb=>eN b (by rw[hsz] at hb;exact hb)) hTc hrow2 rk hx2 (fun b q=>(e b (own_blkV hT.x q).2).trans (hT.rx b q)) hl
  exact And.intro (hB.chg (ρ':=ρ') c2 (fun b _ q=>by have:=hcol b q;omega) e) (And.intro hT2 (Sco.of c2 (fun b _ q=>by have:=hcol b q;omega) e))
 rcases hg with d|d
 ·exact⟨ρ,fin ρ (fun _ _=>rfl) (fun b hb=>hT.rN b (Nat.le_trans c.size hb)) (hT.rk g d)⟩
 ·refine⟨colr ρ g 8,fin _ (colr_lt (by omega)) (fun b hb=>?_) (colr_same _ _ _)⟩
  unfold colr
  rw[if_neg (by omega)]
  exact hT.rN b (Nat.le_trans c.size hb)
theorem beginS {E:Tqe}{ρ:Nat→Nat}{w:World}{st:LSt}{L:List TkV}{xs:List Nat}(h:Tq E ρ w st L xs)(hl:L.length≤50000000){T0:TypeId}{y0:Value}{e0:Ex}(hnd:Nd w (fun b=>b<E.N) (.iface T0 y0) e0)(hk:ENk e0){mp:Option Nat}{loc:Loc}(hp:PrM w ρ (.map mp) loc):
  Calls Tryz.prog 211 #[.pointer (some ⟨E.T,0,none⟩),.iface T0 y0,.map mp] w fun e w'=>e=.returned (.tuple #[])∧∃ρ',Tq E ρ' w' st (⟨.iface T0 y0,.map mp,⟨e0,loc,false⟩⟩::L) xs∧Sco ρ w ρ' w':=by
 obtain⟨u1,u3,vv,tv,xv,hB,hT⟩:=h
 have k1:=kept_alloc 0 0 w (.cells #[.iface T0 y0,.map mp,.bool false] 296)
 have hB1:TqB E ρ (w.alloc (.cells #[.iface T0 y0,.map mp,.bool false] 296)) st.ins st.vs st.outs u1 u3 vv:=hB.chg (k1.chg (S:=fun _=>False)) (fun _ _ q=>q.elim) (fun _ _=>rfl)
 have hT1:TqT E ρ (w.alloc (.cells #[.iface T0 y0,.map mp,.bool false] 296)) st.names st.calls L xs tv xv:=hT.chg (k1.chg (S:=fun _=>False)) (fun _ _ q=>q.elim) (fun _ _=>rfl) (fun b hb=>hT.rN b (Nat.le_trans k1.size hb))
 have hy:Nd (w.alloc (.cells #[.iface T0 y0,.map mp,.bool false] 296)) (fun b=>b<E.N) (.iface T0 y0) e0∧PrM (w.alloc (.cells #[.iface T0 y0,.map mp,.bool false] 296)) ρ (.map mp) loc∧ENk e0:=⟨hnd.keep k1,hp.chg (k1.chg (S:=fun _=>False)) (fun _ q=>q.elim) (fun _ _=>rfl),hk⟩
 obtain⟨b1,_,_⟩:=box_at w _ #[.iface T0 y0,.map mp,.bool false] 296 (Kept.refl 0 0 _).chg (S:=fun _=>False) (fun c=>c)
 have n0:(w.alloc (.cells #[.iface T0 y0,.map mp,.bool false] 296)).cell? ⟨w.heap.size,0,none⟩=some (.iface T0 y0):=b1 0
 have n1:(w.alloc (.cells #[.iface T0 y0,.map mp,.bool false] 296)).cell? ⟨w.heap.size,1,none⟩=some (.map mp):=b1 1
 have n2:(w.alloc (.cells #[.iface T0 y0,.map mp,.bool false] 296)).cell? ⟨w.heap.size,2,none⟩=some (.bool false):=b1 2
 have HTn:Hid (¬tv.ownBlock=some E.T):=fun q=>by have h8:=hT.rk _ q;have:=hT.rT;omega
 have t4:=hT.t4
 have HB:Hid _:=hB1
 have HT:Hid _:=hT1
 have HY:Hid _:=hy
 have HN:Hid _:=And.intro n0 (And.intro n1 n2)
 have HK:Hid _:=k1
 clear hB hT hB1 hT1 hy n0 n1 n2 k1 b1 hnd hk hp
 go_enter Tryz.func211,Tryz.ntmps211
 go_wp2_with (at_builtin;(refine wpList_appendTk _ rfl _ _ rfl E.N tv L.reverse rfl (by rw[List.length_reverse];exact HT.out.k) w.heap.size ⟨.iface T0 y0,.map mp,⟨e0,loc,false⟩⟩ rfl rfl rfl HN.out.1 HN.out.2.1 HN.out.2.2 (by rw[List.length_reverse];omega) HT.out.sz ?_;intro g cap n w9 hn9 hrow9 hc9 hg9 hlt9;have HC9:Hid _:=Tq.push HB.out HT.out hc9 hg9 hlt9 hn9 hrow9 HY.out;have t49:=(hc9.cell (p:=⟨E.T,4,none⟩) HT.out.lt HTn.out).trans HT.out.t4;have f49:=(hc9.frozen (p:=⟨E.T,4,none⟩) HT.out.lt HTn.out).trans (HT.out.fz 4);clear hn9 hrow9 hc9 hg9 hlt9))
 go_end0
 obtain⟨ρ',q1,q2,q3⟩:=HC9.out
 exact⟨rfl,ρ',⟨u1,u3,vv,_,xv,q1,q2⟩,(Sco.kept HK.out).trans q3⟩
end Go.Proofs.YtgamjhpebmmjcaaGreatDoor
namespace Go.Proofs.YtgamjhpebmmjcaaGreatDoor
set_option maxRecDepth 100000
set_option maxHeartbeats 40000000
open Go.RowKit Flt
attribute [local go_sem] alloc_drewN setCell_drewN run_store_float fld0 fld1 fld2 mkF
def OfR (W:World)(ρ:Nat→Nat)(v:Value)(ys:List Nat):Prop:=W.ownsRow 0 3 1 v ys.length (intsN ys)∧∀b,v.ownBlock=some b→ρ b=0
theorem OfR.sco {W W':World}{ρ ρ':Nat→Nat}{v:Value}{ys:List Nat}(h:OfR W ρ v ys)(s:Sco ρ W ρ' W'):OfR W' ρ' v ys:=⟨own_chg h.1 s.chg (fun b q r=>r (h.2 b q)),fun b q=>(s.ext b (own_blkV h.1 q).2).trans (h.2 b q)⟩
theorem cloneO (w:World)(g o n c:Nat)(ys:List Nat)(hn2:n≤10000000)(hx:ys.length=n)(hg:g<w.heap.size)(hcell:∀k,k<n→w.cell? ⟨g,o+k,none⟩=some (.int .i64 (ys.getD k 0:Nat))):
  Calls Tryz.prog 41 #[.slice (some ⟨g,o,none⟩) n c] w fun e w'=>∃G cap,e=.returned (.slice (some ⟨G,0,none⟩) n cap)∧w.heap.size≤G∧G<w'.heap.size∧w'.ownsRow w.heap.size 3 1 (.slice (some ⟨G,0,none⟩) n cap) n (intsN ys)∧Kept 0 0 w w':=by
 obtain⟨i0,hi,hz0,hz1,hz2⟩:=info_parts infoI
 have heq:(binOp .eql 32 (.slice (some ⟨g,o,none⟩) n c) (.slice none 0 0)).run Tryz.prog w=.ok (.bool false) w:=by
  simp only[binOp]
  simp[run_equal_slice_nil w 32 3 (some ⟨g,o,none⟩) n c Tryz.underlying32]
 have ka:=kept_alloc 0 0 w (.cells #[] 3)
 have HN:Hid (∀j u,(intsN ys)[j]? =some u→(w.alloc (.cells #[] 3)).cell? ((⟨g,o,none⟩:Addr).add j)=some u):=fun j u hu=>by
  have hj:j<ys.length:=by
   have:=(List.getElem?_eq_some_iff.1 hu).1
   simpa[intsN] using this
  have e:u=.int .i64 (ys.getD j 0:Nat):=by
   unfold intsN at hu
   rw[List.getElem?_map,List.getElem?_eq_getElem hj] at hu
   rw[List.getD_eq_getElem?_getD,List.getElem?_eq_getElem hj]
   exact(Option.some.inj hu).symm
  rw[e,add_addr]
  exact kcell ka hg (hcell j (by omega))
 have HO:Hid _:=World.ownsRow_made (base:=w.heap.size) (e:=3) (size:=1) w #[] 0 (Nat.le_refl _) (by unfold maxLen;omega) rfl
 have HKA:Hid _:=ka
 have HX:Hid ((intsN ys).length=n):=by show _=_;rw[intsN,List.length_map,hx]
 clear hcell hx ka hg
 go_enter Tryz.func41,Tryz.ntmps41
 go_wp2_with (first|(at_builtin;refine wpList_append_own _ rfl _ _ 32 rfl w.heap.size 3 i0 (.int .i64 0) 1 8 Tryz.underlying32 hi hz0 hz1 hz2 rfl (by decide) _ _ _ rfl HO.out ⟨g,o,none⟩ n c (intsN ys) rfl ?c0 HN.out ?c2 ?c3 ?c4 ?c5 ?_))
 case c0=>exact HX.out
 case c2=>
  intro u hu
  unfold intsN at hu
  obtain⟨x,_,rfl⟩:=List.mem_map.1 hu
  rfl
 case c3=>unfold maxLen;omega
 case c4=>omega
 intro v' w9 hown9 hg9 hnil
 obtain⟨G,cap,rfl,b1,b2⟩:=own_some hown9 hnil
 have R:Hid _:=grown_keptJ (base:=w.heap.size) hg9 (fun k hk=>by have:w.heap.size=k:=by simpa[Value.ownBlock] using hk
                                                                 omega) HKA.out (Nat.le_refl _)
 have R2:Hid _:=hown9
 clear hown9 hg9 hnil
 go_wp2
 go_ret
 exact⟨G,cap,rfl,b1,b2,R2.out,R.out⟩
theorem cloneNil (w:World):Calls Tryz.prog 41 #[.slice none 0 0] w fun e w'=>e=.returned (.slice none 0 0)∧w'=w:=by
 have heq:(binOp .eql 32 (.slice none 0 0) (.slice none 0 0)).run Tryz.prog w=.ok (.bool true) w:=by
  simp only[binOp]
  simp[run_equal_slice_nil w 32 3 none 0 0 Tryz.underlying32]
 go_enter Tryz.func41,Tryz.ntmps41
 go_wp2
 go_ret
 exact⟨rfl,rfl⟩
theorem of_new {w w2 w3:World}{ρ:Nat→Nat}{G n cp:Nat}{ys:List Nat}(g5:ys.length=n)(g3:w2.ownsRow w.heap.size 3 1 (.slice (some ⟨G,0,none⟩) n cp) n (intsN ys))(h0:∀b,w.heap.size≤b→ρ b=0)(c:Chg (fun b=>ρ b≠0) w2 w3):OfR w3 ρ (.slice (some ⟨G,0,none⟩) n cp) ys:=by
 subst g5
 have hG:=own_blkV g3 (k:=G) rfl
 have h1:∀b,(Value.slice (some ⟨G,0,none⟩) ys.length cp).ownBlock=some b→ρ b=0:=fun b q=>by
  have:G=b:=by simpa[Value.ownBlock] using q
  exact h0 b (by omega)
 exact⟨own_chg ⟨g3.1,g3.2.imp id (fun⟨g,cap,cur,e1,_,b⟩=>⟨g,cap,cur,e1,Nat.zero_le _,b⟩)⟩ c (fun b q r=>r (h1 b q)),h1⟩
theorem Tq.cut {E:Tqe}{ρ:Nat→Nat}{W W1:World}{ins:List Int}{vs:List Vl}{outs:List Int}{names:List Bdg}{calls:Nat}{L:List TkV}{xs xs':List Nat}{u1 u3 vv tv xv xv':Value}
  (hB:TqB E ρ W ins vs outs u1 u3 vv) (hT:TqT E ρ W names calls L xs tv xv) (k:Kept 0 0 W W1) (hx:W.ownsRow E.N 3 1 xv' xs'.length (intsN xs')) (rx:∀b,xv'.ownBlock=some b→xv.ownBlock=some b):
  TqB E ρ (W1.setCell ⟨E.T,5,none⟩ xv') ins vs outs u1 u3 vv∧TqT E ρ (W1.setCell ⟨E.T,5,none⟩ xv') names calls L xs' tv xv'∧Sco ρ W ρ (W1.setCell ⟨E.T,5,none⟩ xv'):=by
 have c2:=chg_set (k.chg (S:=fun _=>False)) E.T 5 xv'
 have hcol:∀b,(False∨b=E.T)→ρ b=2:=fun b q=>q.elim False.elim (fun q=>by rw[q];exact hT.rT)
 have hTc:TcC E (W1.setCell ⟨E.T,5,none⟩ xv') calls tv xv':=(hT.toTcC.chg (k.chg (S:=fun _=>False)) (fun q=>q)).set5 _
 refine⟨hB.chg c2 (fun b _ q=>by have:=hcol b q;omega) (fun _ _=>rfl),TqT.own (L':=L) (xs':=xs') hT c2 (fun b _ q=>.inl (hcol b q)) (fun _ _=>rfl) (fun b hb=>hT.rN b (Nat.le_trans c2.size hb)) hTc (own_chg hT.k c2 (fun b q r=>by have:=hT.rk b q;have:=hcol b r;omega)) hT.rk
  (own_chg hx c2 (fun b q r=>by have:=hT.rx b (rx b q);have:=hcol b r;omega)) (fun b q=>hT.rx b (rx b q)) hT.l,Sco.of c2 (fun b _ q=>by have:=hcol b q;omega) (fun _ _=>rfl)⟩
theorem takeTrS {E:Tqe}{ρ:Nat→Nat}{w:World}{st:LSt}{L:List TkV}{xs:List Nat}(h:Tq E ρ w st L xs)(n:Nat)(hn:n≤xs.length)(hl:xs.length≤6000000):
  Calls Tryz.prog 214 #[.pointer (some ⟨E.T,0,none⟩),.int .i64 (n:Int)] w fun e w'=>∃v,e=.returned v∧OfR w' ρ v (xs.drop (xs.length-n))∧Tq E ρ w' st L (xs.take (xs.length-n))∧Sco ρ w ρ w':=by
 obtain⟨u1,u3,vv,tv,xv,hB,hT⟩:=h
 have t5:=hT.t5
 have f5:=hT.fz 5
 rcases hT.x.2 with⟨e1,e2⟩|⟨g,cap,cur,e1,b1,b2,b3,b4,b5,b6⟩
 ·subst e1
  have hx0:xs=[]:=List.length_eq_zero_iff.1 e2
  subst hx0
  have hn0:n=0:=by simpa using hn
  subst hn0
  have HQ:Hid _:=Tq.cut (xs':=[]) (xv':=.slice none 0 0) hB hT (Kept.refl 0 0 w) (World.ownsRow_nil w E.N 3 1) (fun b q=>q)
  have HZ:Hid (OfR w ρ (.slice none 0 0) []):=⟨World.ownsRow_nil w 0 3 1,fun b q=>by cases q⟩
  have hlt:=hT.lt
  clear hB hT hn e2
  go_enter Tryz.func214,Tryz.ntmps214
  go_wp2_with (go_at_call 41;refine Calls.mono (cloneNil _) ?_;rintro e w2 ⟨rfl,hw⟩;obtain rfl:=hw.symm)
  go_ret
  obtain⟨q1,q2,q3⟩:=HQ.out
  exact⟨_,rfl,HZ.out.sco q3,⟨u1,u3,vv,tv,_,q1,q2⟩,q3⟩
 ·subst e1
  have hg:g<w.heap.size:=(own_blkV hT.x rfl).2
  have hrow:=hT.x
  obtain⟨m,hm⟩:∃m,m=xs.length:=⟨_,rfl⟩
  obtain⟨fr,hfr⟩:∃fr,fr=xs.length-n:=⟨_,rfl⟩
  have hcl:∀k,k<n→w.cell? ⟨g,fr+k,none⟩=some (.int .i64 ((xs.drop fr).getD k 0:Nat)):=fun k hk=>by
   have hx:fr+k<xs.length:=by omega
   have:=hrow.cells (g:=g) rfl (fr+k) (.int .i64 (xs.getD (fr+k) 0:Nat)) (by
    unfold intsN
    rw[List.getElem?_map,List.getElem?_eq_getElem hx,List.getD_eq_getElem?_getD,List.getElem?_eq_getElem hx];rfl)
   rw[add_addr,Nat.zero_add] at this
   rw[this,List.getD_eq_getElem?_getD,List.getD_eq_getElem?_getD,List.getElem?_drop]
  have HC:Hid (∀o c,(o=fr∨n=0)→_):=fun o c ho=>cloneO w g o (m-fr) c (xs.drop fr) (by omega) (by rw[List.length_drop];omega) hg (fun k hk=>by
   rcases ho with rfl|ho
   ·exact hcl k (by omega)
   ·omega)
  have hcut:w.ownsRow E.N 3 1 (.slice (some ⟨g,0,none⟩) fr cap) (xs.take fr).length (intsN (xs.take fr)):=by
   have hlen:(xs.take fr).length=fr:=by rw[List.length_take];omega
   rw[hlen]
   refine⟨by unfold intsN;rw[List.length_map,hlen,Nat.mul_one],.inr ⟨g,cap,cur,rfl,b1,b2,by omega,b4,b5,?_⟩⟩
   rw[Nat.mul_one] at b6 ⊢
   unfold intsN at b6 ⊢
   rw[List.map_take,←b6,List.take_take,Nat.min_eq_left (by omega)]
  have HQ:Hid (∀W1,Kept 0 0 w W1→_):=fun W1 k=>Tq.cut (xs':=xs.take fr) (xv':=.slice (some ⟨g,0,none⟩) fr cap) hB hT k hcut (fun b q=>q)
  have hlt:=hT.lt
  have HT5:Hid (∀W1,Kept 0 0 w W1→W1.cell? ⟨E.T,5,none⟩=some (.slice (some ⟨g,0,none⟩) m cap)∧W1.frozen? ⟨E.T,5,none⟩=false):=fun W1 k=>⟨kcell k hT.lt (by rw[hm];exact hT.t5),by rw[k.frozen (p:=⟨E.T,5,none⟩) hT.lt (by omega)];exact hT.fz 5⟩
  have HN0:Hid _:=hT.rN
  have HT2:Hid (ρ E.T≠0):=by show _≠_;rw[hT.rT];decide
  rw[←hm] at t5 hn hl b3
  rw[←hfr]
  have e3:(m:Int)-(n:Int)=(fr:Int):=by omega
  have HM:Hid (m=xs.length∧fr=xs.length-n):=⟨hm,hfr⟩
  have e5:fr≤m:=by omega
  clear hB hT hrow hcl hcut b2 b5 b6 hm hfr
  rcases Nat.lt_or_ge fr cap with d|d
  ·have HC1:Hid _:=HC.out fr (cap-fr) (.inl rfl)
   clear HC
   go_enter Tryz.func214,Tryz.ntmps214
   go_wp2_with (go_at_call 41;go_loud (refine Calls.mono HC1.out ?_;rintro e w2 ⟨G,cp,rfl,g1,g2,g3,g4⟩;obtain⟨t52,f52⟩:=HT5.out _ g4;have HG:Hid _:=And.intro g1 (And.intro g2 (And.intro g3 g4));clear g1 g2 g3 g4))
   go_ret
   obtain⟨g1,g2,g3,g4⟩:=HG.out
   obtain⟨q1,q2,q3⟩:=HQ.out _ g4
   exact⟨_,rfl,of_new (by rw[List.length_drop,←HM.out.1]) g3 HN0.out (chg_setCell _ _ _ _ HT2.out),⟨u1,u3,vv,tv,_,q1,q2⟩,q3⟩
  ·have d1:cap=fr:=by omega
   have d2:m=fr:=by omega
   have d3:n=0:=by omega
   have HC1:Hid _:=cloneO w g 0 0 0 (xs.drop fr) (by omega) (by rw[List.length_drop];have:=HM.out;omega) hg (fun k hk=>by omega)
   subst d1
   subst d2
   subst d3
   clear HC d
   go_enter Tryz.func214,Tryz.ntmps214
   go_wp2_with (go_at_call 41;go_loud (refine Calls.mono HC1.out ?_;rintro e w2 ⟨G,cp,rfl,g1,g2,g3,g4⟩;obtain⟨t52,f52⟩:=HT5.out _ g4;have HG:Hid _:=And.intro g1 (And.intro g2 (And.intro g3 g4));clear g1 g2 g3 g4))
   go_ret
   obtain⟨g1,g2,g3,g4⟩:=HG.out
   obtain⟨q1,q2,q3⟩:=HQ.out _ g4
   exact⟨_,rfl,of_new (by rw[List.length_drop,←HM.out.1];omega) g3 HN0.out (chg_setCell _ _ _ _ HT2.out),⟨u1,u3,vv,tv,_,q1,q2⟩,q3⟩
end Go.Proofs.YtgamjhpebmmjcaaGreatDoor
namespace Go.Proofs.YtgamjhpebmmjcaaGreatDoor
set_option maxRecDepth 100000
set_option maxHeartbeats 40000000
open Go.RowKit Flt
attribute [local go_sem] alloc_drewN setCell_drewN run_store_float fld0 fld1 fld2 mkF
theorem Drawn.kept0 {w w':World}(h:Drawn w w'):Kept 0 0 w w':=by
 obtain⟨m,rfl⟩:=h
 exact kept_drewN 0 0 w m
theorem lenS {E:Tqe}{ρ:Nat→Nat}{w:World}{st:LSt}{L:List TkV}{xs:List Nat}(h:Tq E ρ w st L xs){a:Nat}(ha:a<st.vs.length):
  Calls Tryz.prog 221 #[.pointer (some ⟨E.P,0,none⟩),.int .i64 (a:Int)] w fun e w'=>e=.returned (.int .i64 (lenA st a))∧Kept 0 0 w w':=by
 obtain⟨u1,u3,vv,tv,xv,hB,hT⟩:=h
 exact Calls.mono (lengthJ w E.P u1 u3 st.vs _ E.N _ vv a hB.b ha) (fun e w' ⟨h1,h2⟩=>⟨h1,h2.kept0⟩)
theorem Tq.t0 {E:Tqe}{ρ:Nat→Nat}{w:World}{st:LSt}{L:List TkV}{xs:List Nat}(h:Tq E ρ w st L xs):w.cell? ⟨E.T,0,none⟩=some (.pointer (some ⟨E.P,0,none⟩))∧E.T<w.heap.size:=by
 obtain⟨u1,u3,vv,tv,xv,hB,hT⟩:=h
 exact⟨hT.t0,hT.lt⟩
end Go.Proofs.YtgamjhpebmmjcaaGreatDoor
namespace Go.Proofs.YtgamjhpebmmjcaaGreatDoor
set_option maxRecDepth 100000
set_option maxHeartbeats 40000000
open Go.RowKit Flt
attribute [local go_sem] alloc_drewN setCell_drewN run_store_float fld0 fld1 fld2 mkF
theorem own_frz {W:World}{B e s n m g cap:Nat}{xs:List Value}(h:W.ownsRow B e s (.slice (some ⟨g,0,none⟩) n cap) m xs)(o:Nat):W.frozen? ⟨g,o,none⟩=false:=by
 rcases h.2 with⟨e1,_⟩|⟨g',cap',cur,e1,b1,b2,_⟩
 ·cases e1
 ·cases e1
  simp[World.frozen?,b2]
theorem OfR.cells {W:World}{ρ:Nat→Nat}{g n cap:Nat}{ys:List Nat}(h:OfR W ρ (.slice (some ⟨g,0,none⟩) n cap) ys):ys.length=n∧∀k,k<n→W.cell? ⟨g,k,none⟩=some (.int .i64 (ys.getD k 0:Nat)):=by
 have hn:ys.length=n:=by
  rcases h.1.2 with⟨e1,_⟩|⟨g',cap',cur,e1,_⟩
  ·cases e1
  ·injection e1 with _ e2 _;exact e2.symm
 refine⟨hn,fun k hk=>?_⟩
 have hx:k<ys.length:=by omega
 have:=h.1.cells (g:=g) rfl k (.int .i64 (ys.getD k 0:Nat)) (by
  unfold intsN
  rw[List.getElem?_map,List.getElem?_eq_getElem hx,List.getD_eq_getElem?_getD,List.getElem?_eq_getElem hx];rfl)
 rwa [add_addr,Nat.zero_add] at this
theorem OfR.keep {W W':World}{ρ:Nat→Nat}{v:Value}{ys:List Nat}(h:OfR W ρ v ys)(k:Kept 0 0 W W'):OfR W' ρ v ys:=h.sco (Sco.kept k)
end Go.Proofs.YtgamjhpebmmjcaaGreatDoor
namespace Go.Proofs.YtgamjhpebmmjcaaGreatDoor
set_option maxRecDepth 100000
set_option maxHeartbeats 40000000
open Go.RowKit Flt
attribute [local go_sem] alloc_drewN setCell_drewN run_store_float fld0 fld1 fld2 mkF
theorem OfR.form {W:World}{ρ:Nat→Nat}{v:Value}{ys:List Nat}(h:OfR W ρ v ys)(hn:0<ys.length):∃G cap,v=.slice (some ⟨G,0,none⟩) ys.length cap:=by
 rcases h.1.2 with⟨e1,e2⟩|⟨g',cap',cur,e1,_⟩
 ·omega
 ·exact⟨g',cap',e1⟩
end Go.Proofs.YtgamjhpebmmjcaaGreatDoor
namespace Go.Proofs.YtgamjhpebmmjcaaGreatDoor
set_option maxRecDepth 100000
set_option maxHeartbeats 40000000
open Go.RowKit Flt
attribute [local go_sem] alloc_drewN setCell_drewN run_store_float fld0 fld1 fld2 mkF
theorem push_others {E:Tqe}{ρ:Nat→Nat}{w W W9:World}{names:List Bdg}{calls:Nat}{L:List TkV}{xs:List Nat}{tv xv:Value}(hT:TqT E ρ W names calls L xs tv xv)(k:Kept 0 0 w W)(c:Chg (fun b=>tv.ownBlock=some b) W W9)(v:Value):KeepsOthers w (W9.setCell ⟨E.T,4,none⟩ v):=by
 have c2:=chg_set c E.T 4 v
 refine⟨Nat.le_trans k.size c2.size,fun i o hi ho=>?_⟩
 have hl:i<w.heap.size:=(Array.getElem?_eq_some_iff.1 hi).1
 have h1:W.heap[i]? =some o:=(k.block i hl (by omega)).trans hi
 rw[c2.block i (Nat.lt_of_lt_of_le hl k.size) ?_]
 ·exact h1
 ·rintro (e|e)
  ·have e:tv.ownBlock=some i:=e
   rw[own_cells hT.k e h1] at ho;cases ho
  ·rw[e] at h1
   rw[cell_cells hT.t0 h1] at ho;cases ho
theorem Tq.own {E:Tqe}{ρ:Nat→Nat}{W W':World}{st:LSt}{L:List TkV}{xs:List Nat}{B:Nat}(h:Tq E ρ W st L xs){row:Option Nat}(g:W.grownBy W' row)(hr:∀r,row=some r→B≤r∧∃o:Obj,W.heap[r]? =some o∧o.isCells=false)(hN:E.N≤B)(hV:E.V<B)(hF:E.F<B)(hq:∀y∈L,∀q,y.p=.map (some q)→q<B):
  ∃ρ',Tq E ρ' W' st L xs∧∀b,b<B→ρ' b=ρ b:=by
 cases row with
 |none=>
  have k:Kept 0 0 W W':=⟨g.os,g.tape,g.output,g.size,fun b hb _=>g.block b hb (by simp)⟩
  exact⟨ρ,h.keep k,fun _ _=>rfl⟩
 |some r=>
  obtain⟨hB,o,ho,hc⟩:=hr r rfl
  obtain⟨u1,u3,vv,tv,xv,hb,hT⟩:=h
  have nc:∀{b:Nat},(∀o',W.heap[b]? =some o'→o'.isCells=true)→b≠r:=fun {b} f e=>by
   rw[e] at f
   rw[f o ho] at hc;cases hc
  have oth:∀b c,ρ b=c→b≠r→colr ρ r 0 b=c:=fun b c e hn=>by unfold colr;rw[if_neg hn];exact e
  have hq0:Tq E (colr ρ r 0) W st L xs:=by
   refine⟨u1,u3,vv,tv,xv,⟨hb.b,hb.i,hb.o,oth _ _ hb.rP (nc fun o' h'=>cell_cells hb.b.c0 h'),fun b e=>oth _ _ (hb.rR b e) (nc fun o' h'=>own_cells hb.b.own e h'),fun b e=>oth _ _ (hb.ri b e) (nc fun o' h'=>own_cells hb.i e h'),fun b e=>oth _ _ (hb.ro b e) (nc fun o' h'=>own_cells hb.o e h'),hb.e1,hb.e3⟩,
    ⟨hT.toTcC,hT.k,hT.x,hT.v,hT.f,fun y hy=>⟨(hT.l y hy).1,?_,(hT.l y hy).2.2⟩,oth _ _ hT.rT (nc fun o' h'=>cell_cells hT.t0 h'),oth _ _ hT.rV (by omega),oth _ _ hT.rF (by omega),fun b e=>oth _ _ (hT.rk b e) (nc fun o' h'=>own_cells hT.k e h'),fun b e=>oth _ _ (hT.rx b e) (nc fun o' h'=>own_cells hT.x e h'),fun b hb'=>oth _ _ (hT.r0 b hb') (by omega),fun b hb'=>?_,hT.sz⟩⟩
   ·rcases (hT.l y hy).2.1 with e|⟨q,e1,e2,e3⟩
    ·exact .inl e
    ·exact .inr ⟨q,e1,oth _ _ e2 (by have:=hq y hy q e1;omega),e3⟩
   ·unfold colr
    split
    ·rfl
    ·exact hT.rN b hb'
  have ch:Chg (fun b=>b=r) W W':=⟨g.os,g.tape,g.output,g.size,fun b hb' hn=>g.block b hb' (fun e=>hn (Option.some.inj e))⟩
  exact⟨colr ρ r 0,hq0.priv ch (by omega) (by unfold colr;rw[if_pos rfl]),fun b hb'=>by unfold colr;rw[if_neg (by omega)]⟩
theorem beginK {E:Tqe}{ρ:Nat→Nat}{w:World}{st:LSt}{L:List TkV}{xs:List Nat}(h:Tq E ρ w st L xs)(hl:L.length≤50000000){T0:TypeId}{y0:Value}{e0:Ex}(hnd:Nd w (fun b=>b<E.N) (.iface T0 y0) e0)(hk:ENk e0){mp:Option Nat}{loc:Loc}(hp:PrM w ρ (.map mp) loc):
  Calls Tryz.prog 211 #[.pointer (some ⟨E.T,0,none⟩),.iface T0 y0,.map mp] w fun e w'=>e=.returned (.tuple #[])∧∃ρ',Tq E ρ' w' st (⟨.iface T0 y0,.map mp,⟨e0,loc,false⟩⟩::L) xs∧Sco ρ w ρ' w'∧KeepsOthers w w':=by
 obtain⟨u1,u3,vv,tv,xv,hB,hT⟩:=h
 have k1:=kept_alloc 0 0 w (.cells #[.iface T0 y0,.map mp,.bool false] 296)
 have hB1:TqB E ρ (w.alloc (.cells #[.iface T0 y0,.map mp,.bool false] 296)) st.ins st.vs st.outs u1 u3 vv:=hB.chg (k1.chg (S:=fun _=>False)) (fun _ _ q=>q.elim) (fun _ _=>rfl)
 have hT1:TqT E ρ (w.alloc (.cells #[.iface T0 y0,.map mp,.bool false] 296)) st.names st.calls L xs tv xv:=hT.chg (k1.chg (S:=fun _=>False)) (fun _ _ q=>q.elim) (fun _ _=>rfl) (fun b hb=>hT.rN b (Nat.le_trans k1.size hb))
 have hy:Nd (w.alloc (.cells #[.iface T0 y0,.map mp,.bool false] 296)) (fun b=>b<E.N) (.iface T0 y0) e0∧PrM (w.alloc (.cells #[.iface T0 y0,.map mp,.bool false] 296)) ρ (.map mp) loc∧ENk e0:=⟨hnd.keep k1,hp.chg (k1.chg (S:=fun _=>False)) (fun _ q=>q.elim) (fun _ _=>rfl),hk⟩
 obtain⟨b1,_,_⟩:=box_at w _ #[.iface T0 y0,.map mp,.bool false] 296 (Kept.refl 0 0 _).chg (S:=fun _=>False) (fun c=>c)
 have n0:(w.alloc (.cells #[.iface T0 y0,.map mp,.bool false] 296)).cell? ⟨w.heap.size,0,none⟩=some (.iface T0 y0):=b1 0
 have n1:(w.alloc (.cells #[.iface T0 y0,.map mp,.bool false] 296)).cell? ⟨w.heap.size,1,none⟩=some (.map mp):=b1 1
 have n2:(w.alloc (.cells #[.iface T0 y0,.map mp,.bool false] 296)).cell? ⟨w.heap.size,2,none⟩=some (.bool false):=b1 2
 have HTn:Hid (¬tv.ownBlock=some E.T):=fun q=>by have h8:=hT.rk _ q;have:=hT.rT;omega
 have t4:=hT.t4
 have HB:Hid _:=hB1
 have HT:Hid _:=hT1
 have HY:Hid _:=hy
 have HN:Hid _:=And.intro n0 (And.intro n1 n2)
 have HK:Hid _:=k1
 clear hB hT hB1 hT1 hy n0 n1 n2 k1 b1 hnd hk hp
 go_enter Tryz.func211,Tryz.ntmps211
 go_wp2_with (at_builtin;(refine wpList_appendTk _ rfl _ _ rfl E.N tv L.reverse rfl (by rw[List.length_reverse];exact HT.out.k) w.heap.size ⟨.iface T0 y0,.map mp,⟨e0,loc,false⟩⟩ rfl rfl rfl HN.out.1 HN.out.2.1 HN.out.2.2 (by rw[List.length_reverse];omega) HT.out.sz ?_;intro g cap n w9 hn9 hrow9 hc9 hg9 hlt9;have HO9:Hid _:=push_others HT.out HK.out hc9 (.slice (some ⟨g,0,none⟩) n cap);have HC9:Hid _:=Tq.push HB.out HT.out hc9 hg9 hlt9 hn9 hrow9 HY.out;have t49:=(hc9.cell (p:=⟨E.T,4,none⟩) HT.out.lt HTn.out).trans HT.out.t4;have f49:=(hc9.frozen (p:=⟨E.T,4,none⟩) HT.out.lt HTn.out).trans (HT.out.fz 4);clear hn9 hrow9 hc9 hg9 hlt9))
 go_end0
 obtain⟨ρ',q1,q2,q3⟩:=HC9.out
 exact⟨rfl,ρ',⟨u1,u3,vv,_,xv,q1,q2⟩,(Sco.kept HK.out).trans q3,HO9.out⟩
end Go.Proofs.YtgamjhpebmmjcaaGreatDoor
namespace Go.Proofs.YtgamjhpebmmjcaaGreatDoor
set_option maxRecDepth 100000
set_option maxHeartbeats 40000000
open Go.RowKit Flt
attribute [local go_sem] alloc_drewN setCell_drewN run_store_float fld0 fld1 fld2 mkF
theorem cloneNI (w:World):Calls Tryz.prog 41 #[.slice none 0 0] w fun e w'=>e=.returned (.slice none 0 0)∧Kept 0 0 w w':=by
 have heq:(binOp .eql 32 (.slice none 0 0) (.slice none 0 0)).run Tryz.prog w=.ok (.bool true) w:=by
  simp only[binOp]
  simp[run_equal_slice_nil w 32 3 none 0 0 Tryz.underlying32]
 go_enter Tryz.func41,Tryz.ntmps41
 go_wp2_with fail
 go_ret
 exact⟨rfl,Kept.refl 0 0 _⟩
theorem cloneNV (w:World):Calls Tryz.prog 69 #[.slice none 0 0] w fun e w'=>e=.returned (.slice none 0 0)∧Kept 0 0 w w':=by
 have heq:(binOp .eql 57 (.slice none 0 0) (.slice none 0 0)).run Tryz.prog w=.ok (.bool true) w:=by
  simp only[binOp]
  simp[run_equal_slice_nil w 57 87 none 0 0 Tryz.underlying57]
 go_enter Tryz.func69,Tryz.ntmps69
 go_wp2_with fail
 go_ret
 exact⟨rfl,Kept.refl 0 0 _⟩
end Go.Proofs.YtgamjhpebmmjcaaGreatDoor
