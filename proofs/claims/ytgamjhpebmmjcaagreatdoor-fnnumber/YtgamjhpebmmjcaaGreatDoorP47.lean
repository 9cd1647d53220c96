import Derived.Test.YtgamjhpebmmjcaaGreatDoorP41
import Derived.Test.YtgamjhpebmmjcaaGreatDoorP46
import Derived.Test.YtgamjhpebmmjcaaGreatDoorP42
import Derived.Deep.RegionWith
import Derived.Deep.RegionLaw
import Derived.Deep.Cut
import Derived.Test.YtgamjhpebmmjcaaGreatDoorP38
import Derived.Test.YtgamjhpebmmjcaaGreatDoorP40
namespace Go.Proofs.YtgamjhpebmmjcaaGreatDoor
set_option maxRecDepth 100000
set_option maxHeartbeats 40000000
open Go.RowKit Flt
attribute [local go_sem] alloc_drewN setCell_drewN run_store_float fld0 fld1 fld2 mkF
theorem door_any {R:Ending→World→Prop}{W:World}{G:Nat}{t0 t1 t5 t6 t7 t8 t9 t10 t11 t12 t13 t14 t15 t16 t17 t18 t19:Value}{x y z cv av:Value}(h:R3 W G (G+1) (G+1+1) x y z cv av)(hr:R (.returned (.tuple #[.agg #[x,y,z],cv,av])) W):
  Leaves Tryz.prog Tryz.f23 #[t0,t1,.pointer (some ⟨G,0,none⟩),.pointer (some ⟨G+1,0,none⟩),.pointer (some ⟨G+1+1,0,none⟩),t5,t6,t7,t8,t9,t10,t11,t12,t13,t14,t15,t16,t17,t18,t19] R [{target:=.fn (.func 30) #[.pointer (some ⟨G,0,none⟩),.pointer (some ⟨G+1,0,none⟩),.pointer (some ⟨G+1+1,0,none⟩)],args:=#[]}] .returning W:=by
 refine leaves_cons (f:=30) (args:=#[.pointer (some ⟨G,0,none⟩),.pointer (some ⟨G+1,0,none⟩),.pointer (some ⟨G+1+1,0,none⟩)]) (by simp) (by simp[go_sem]) ?_
 refine(idleS G (G+1) (G+1+1) W).mono ?_
 rintro e u' w'' ⟨rfl,rfl,rfl⟩
 exact⟨.tuple #[.agg #[x,y,z],cv,av],by simp[results,Tryz.results23,go_sem,h.g0,h.g1,h.g2,h.c0,h.a0],hr⟩
def PJ1 (w:World)(J:GR)(e:Ending)(w':World):Prop:=PJ w J e w'∧∀x y z c a,e=.returned (.tuple #[.agg #[x,y,z],c,a])→x=.slice none 0 0
theorem parseOK {w:World}{a:Option Addr}{n cap:Nat}{t:List UInt8}(f:TxA w a n t)(hcp:n≤cap)(hn4:n≤4000){r:Rs LSt}
  (hw0:wrongM t.length (allT t) [pSTMTS]=-1)
  (h4:∀(j:Nat) (q:PTk),(Tl t (allT t))[j]? =some q→numB q=true→dcM q.text≤15)
  (h5:∀(W:World) (v:Value) (vs:List Value) (ss:List Sm) (M:Nat→Prop),W.ownsRow 0 112 1 v vs.length vs→SdL W M vs ss→PGm ss (allT t)→Calls Tryz.prog 35 #[v] W fun e w'=>GoP W r e w'∧∀x y z,e=.returned (.agg #[x,y,z])→x=.slice none 0 0) (hrk:∀c p,r≠.error (c,p)):
  Calls Tryz.prog 23 #[.slice a n cap] w (PJ1 w (grOf r)):=by
 have HR:Hid _:=ps_start w (.int .i64 0) (.int .i64 0)
 have HKa:Hid (Kept 0 0 w (psW w)):=((kept_alloc 0 0 w _).trans (kept_alloc 0 0 _ _)).trans (kept_alloc 0 0 _ _)
 have HF:Hid _:=f
 have HW0:Hid _:=hw0
 have H4d:Hid _:=h4
 have H5:Hid _:=h5
 have HRk0:Hid _:=hrk
 clear hw0 h4 h5 f hrk
 have hn':¬((4000:Int)<(n:Int)):=by omega
 have HSc:Hid _:=scanS (HF.out.keep HKa.out) (by omega) hcp
 have HRk:Hid (∀W,Kept 0 0 (psW w) W→R3 W w.heap.size (w.heap.size+1) (w.heap.size+1+1) (.slice none 0 0) (.slice none 0 0) (.slice none 0 0) (.int .i64 0) (.int .i64 0)):=fun W k=>HR.out.chg k.chg (S:=fun _=>False) (fun c=>c) (fun c=>c) (fun c=>c)
 have HLt:Hid (t.length≤4000):=by show _≤_;rw[HF.out.len];exact hn4
 have HL:Hid _:=tl_len t
 have HTx:Hid _:=tl_text HLt.out
 clear HR hcp
 go_enter_defers Tryz.func23,Tryz.ntmps23
 go_upto_region 5 with (go_at_call 32;refine Calls.mono HSc.out ?_;rintro e w1 ⟨v1,rfl,hp1,k1⟩;obtain⟨g1,cap1,rfl,hg1,hc1⟩:=ps_form hp1)
 have HK1:Hid _:=k1
 have HC1:Hid _:=And.intro hg1 hc1
 have HPa:Hid _:=parseS (w:=w1) (cap:=cap1) hg1 (by have:=HL.out;have:=HLt.out;omega) hc1
 clear hp1 k1 hg1 hc1 HSc
 generalize hm:(Tl t (allT t)).length=m at*
 go_upto_region 6 with (go_at_call 33;refine Calls.mono HPa.out ?_;rintro e w2 (⟨v2,vs,ss,rfl,hw,hss,hrow,hb,hsd,k2⟩|⟨p,rfl,hw,k2⟩);rotate_left;(exfalso;have h9:=HW0.out;rw[hw] at h9;omega))
 have HM:Hid ((Tl t (allT t)).length=m):=hm
 have HK2:Hid (Kept 0 0 (psW w) w2):=HK1.out.trans k2
 have HCk:Hid _:=checkS (w:=w2) (cap:=cap1) (T:=Tl t (allT t)) HM.out.symm (by have:=HL.out;have:=HLt.out;omega) (Nat.lt_of_lt_of_le HC1.out.1 k2.size) (fun j k h=>by
  have ce:∀o,w2.cell? ⟨g1,o,none⟩=w1.cell? ⟨g1,o,none⟩:=fun o=>(k2.chg (S:=fun _=>False)).cell (p:=⟨g1,o,none⟩) HC1.out.1 (fun c=>c)
  rw[ce,ce,ce]
  exact HC1.out.2 j k h) HTx.out
 have HRw:Hid _:=And.intro hrow (And.intro hsd hss)
 clear hm k2 hrow hsd hss hw hb HC1 HPa HK1
 go_upto_region 7 with (go_at_call 34;refine Calls.mono HCk.out ?_;rintro e w3 ⟨⟨rfl,hok⟩|⟨i,k,rfl,q1,q2,q3,q4⟩,k3⟩;rotate_left;(exfalso;have h9:=H4d.out i k q1 q2;omega))
 have HK3:Hid (Kept 0 0 (psW w) w3):=HK2.out.trans k3
 have HGr:Hid _:=H5.out w3 v2 vs ss _ (st_keep HRw.out.1 (k3.chg (S:=fun _=>False)) (fun _ _ h=>h)) (HRw.out.2.1.oth (k3.chg (S:=fun _=>False)) (fun _ h=>h.elim)) HRw.out.2.2
 clear hok k3 HRw HCk HK2 H4d H5 HTx HW0
 go_wp2_with (go_at_call 35;refine Calls.mono HGr.out ?_;rintro e w4 ⟨⟨⟨a1,d1,a2,d2,a3,d3,rfl,hkb,hog⟩,⟨hc0,ha0,hle⟩,k4⟩|⟨c,p,hre,rfl,k4⟩,hnl⟩;rotate_left;exact(HRk0.out c p hre).elim;have h4:=HRk.out w4 (HK3.out.trans k4);have H4:Hid _:=h4;obtain⟨e0,e1,e2,e3,e4,e5,e6,e7,e8,e9,l0,l1,l2⟩:=h4)
 have hz3:w.heap.size+1+1<w3.heap.size:=Nat.lt_of_lt_of_le (HRk.out _ (Kept.refl 0 0 _)).lA HK3.out.size
 have kw:Kept 0 0 w w4:=HKa.out.trans (HK3.out.trans k4)
 have kc:=p5_chg w4 w.heap.size (w.heap.size+1) (w.heap.size+1+1) (.slice a1 (grOf r).ins.length d1) (.slice a2 (grOf r).vs.length d2) (.slice a3 (grOf r).outs.length d3) (.int .i64 0) (.int .i64 0)
 refine door_any (H4.out.put (by omega) (by omega) (by omega) _ _ _ _ _) ⟨⟨⟨a1,d1,a2,d2,a3,d3,by rw[hc0,ha0],hkb,hog.far kc (fun b h=>by omega) (by omega)⟩,Chg.kept kw kc (fun b h=>by omega)⟩,?_⟩
 intro x y z c a he
 have hx:Value.slice a1 (grOf r).ins.length d1=x:=by injection he with h;injection h with h;injection h with h;injection h with h h2;injection h with h;injection h with h;injection h
 rw[←hx]
 exact hnl _ _ _ rfl
end Go.Proofs.YtgamjhpebmmjcaaGreatDoor
namespace Go.Proofs.YtgamjhpebmmjcaaGreatDoor
set_option maxRecDepth 100000
set_option maxHeartbeats 40000000
open Go.RowKit Flt
theorem enterN {E:Tqe}{ρ:Nat→Nat}{w:World}{st:LSt}{v p:Value}{e:Ex}{loc:Loc}{S:List TkV}{xs:List Nat}(h:Tq E ρ w st (⟨v,p,⟨e,loc,true⟩⟩::S) xs)(hI:InG st (⟨e,loc,false⟩::S.map (·.t)) xs):
  Calls Tryz.prog 213 #[.pointer (some ⟨E.T,0,none⟩),.agg #[v,p,.bool false]] w (EnR E ρ w st (⟨v,p,⟨e,loc,true⟩⟩::S) xs loc e):=by
 have he:SimE e:=hI.k _ (List.mem_cons_self ..)
 have hl:(⟨v,p,⟨e,loc,true⟩⟩::S).length+(kidsE e).length≤40000000∧(kidsE e).length≤10000000:=by
  have h1:=kids_le (kidsE e)
  have h2:=sz_kids e
  have h3:=hI.w
  have h5:=wtS_len (S.map (·.t))
  rw[List.length_map] at h5
  have h6:wtS (⟨e,loc,false⟩::S.map (·.t))=szE e+wtS (S.map (·.t)):=rfl
  simp only[List.length_cons]
  omega
 have hin:=h
 obtain⟨u1,u3,vv,tv,xv,hB,hT⟩:=hin
 obtain⟨hnd,hpr,hk⟩:=hT.l _ (List.mem_cons_self ..)
 simp only at hnd hpr hk
 obtain⟨mp,rfl⟩:=prm_map hpr
 clear hB hT
 have mk:∀{a1:Option Addr} {n1 c1:Nat} {rs:List Value},Rw w (fun b=>b<E.N) (.slice a1 n1 c1) rs→NdL w (fun b=>b<E.N) rs (kidsE e)→rs.length=n1→EnI E ρ w (⟨v,.map mp,⟨e,loc,true⟩⟩::S) a1 n1 c1 mp loc rs (kidsE e):=fun {a1 n1 c1 rs} r nd rl=>by
  have hkl:(kidsE e).length=n1:=by rw[←nd.1];exact rl
  exact⟨r,nd,rl,hk.kids,⟨_,List.mem_cons_self ..,rfl,rfl⟩,by rw[←hkl];exact hl.1,by rw[←hkl];exact hl.2⟩
 unfold EnR
 rw[he.ent]
 simp only
 rcases he with⟨t,rfl⟩|⟨o,t,rfl⟩
 ·cases hnd with
  |num=>exact enterPlain h (mk (rw_nil _ _) (NdL.nil _ _) rfl) (fun W=>me_numberNode_operands _ _ _ _ _ W) (by decide) (by decide) (by decide)
 ·cases hnd with
  |neg r hv=>obtain⟨a1,c1,rfl⟩:=rw_slice r;exact enterPlain h (mk r (NdL.one hv) rfl) (fun W=>me_sameNode_operands _ _ _ W) (by decide) (by decide) (by decide)
theorem leaveN {E:Tqe}{ρ:Nat→Nat}{w:World}{st:LSt}{v p:Value}{e:Ex}{loc:Loc}{S:List TkV}{xs:List Nat}(h:Tq E ρ w st S xs)(hc:InG st (⟨e,loc,true⟩::S.map (·.t)) xs)(hnd:Nd w (fun b=>b<E.N) v e)(hpr:PrM w ρ p loc)(hk:ENk e)(hn:(kidsE e).length≤xs.length):
  Calls Tryz.prog 212 #[.pointer (some ⟨E.T,0,none⟩),.agg #[v,p,.bool true]] w (LvR E ρ w S (leaveC st ⟨e,loc,true⟩ (S.map (·.t)) xs)):=by
 obtain⟨mp,rfl⟩:=prm_map hpr
 have hx6:=hc.len
 have he:SimE e:=hc.k _ (List.mem_cons_self ..)
 have hcall:=he.call
 have tk:=hk.t
 have hxk:∀i∈xs.drop (xs.length-(kidsE e).length),i<st.vs.length:=fun i hi=>hc.x i (List.mem_of_mem_drop hi)
 have fin:∀{r:Rs (LSt×Nat)} {n1:Nat} {e':Ending} {w':World},(kidsE e).length=n1→r=valE st loc e (xs.drop (xs.length-n1))→LvO E ρ w S (xs.take (xs.length-n1)) r e' w'→LvR E ρ w S (leaveC st ⟨e,loc,true⟩ (S.map (·.t)) xs) e' w':=fun {r n1 e' w'} hn1 hr hh=>by
  subst hn1
  have hxs:xs=xs.take (xs.length-(kidsE e).length)++xs.drop (xs.length-(kidsE e).length):=(List.take_append_drop _ _).symm
  have hl:leaveC st ⟨e,loc,true⟩ (S.map (·.t)) xs=valC r (S.map (·.t)) (xs.take (xs.length-(kidsE e).length)):=by
   have:=leave_val (st:=st) (loc:=loc) (b:=true) (S:=S.map (·.t)) (X:=xs.take (xs.length-(kidsE e).length)) (ys:=xs.drop (xs.length-(kidsE e).length)) hcall (by rw[List.length_drop];omega)
   rw[←hxs] at this
   rw[this,hr]
  rw[hl]
  rcases hh with⟨st',a,ρ',h1,h2,h3,h4⟩|⟨c,p,h1,h2,h3⟩
  ·rw[h1]
   exact .inl ⟨_,[],ρ',rfl,h2,h3,rfl,h4⟩
  ·rw[h1]
   exact .inr ⟨c,p,rfl,h2,h3⟩
 rcases he with⟨t,rfl⟩|⟨o,t,rfl⟩
 ·cases hnd with
  |num=>
   refine Calls.mono (leaveValC (n1:=0) (r:=valE st loc (.num t) (xs.drop (xs.length-0))) h (Nat.zero_le _) (by omega) (fun W=>me_numberNode_operands _ _ _ _ _ W) (fun W=>tan_callNode _ _ W (by decide)) (fun W ov hq ho hs hch=>valNum hq hc.g (tk _ (by simp[tkE])).1 (hk.n _ (by simp[nmE])) ov)) ?_
   intro e' w' hh
   exact fin rfl rfl hh
 ·cases hnd with
  |neg r hv=>
   obtain⟨a1,c1,rfl⟩:=rw_slice r
   refine Calls.mono (leaveValC (n1:=1) (r:=valE st loc (.neg o (.num t)) (xs.drop (xs.length-1))) h hn (by omega) (fun W=>me_sameNode_operands _ _ _ W) (fun W=>tan_callNode _ _ W (by decide)) (fun W ov hq ho hs hch=>?_)) ?_
   ·have hyl:(xs.drop (xs.length-1)).length=1:=by
     have:(kidsE (.neg o (.num t))).length=1:=rfl
     rw[List.length_drop];omega
    obtain⟨G,cap,rfl⟩:=ho.form (by omega)
    rw[hyl] at ho ⊢
    exact valSame hq hc.g ho hxk _ 6
   ·intro e' w' hh
    exact fin rfl rfl hh
theorem traceN {E:Tqe}{ρ:Nat→Nat}{w:World}{st:LSt}(h:Tq E ρ w st [] []){T0:TypeId}{y0:Value}{e0:Ex}(hnd:Nd w (fun b=>b<E.N) (.iface T0 y0) e0)(hk:ENk e0)(hc:InG st [mkT [] e0] []){n:Nat}{r:Rs (LSt×Nat)}(hr:runC n st [mkT [] e0] []=some (oneL r)):
  Calls Tryz.prog 210 #[.pointer (some ⟨E.T,0,none⟩),.iface T0 y0] w (TcO E ρ w r):=
 traceG (I:=InG) (fun _ _ _ q=>q.len) (fun _ _ _ _ _ _ q hq=>q.enter hq) (fun _ _ _ _ _ _ q hl hq=>q.leave hl hq) (fun _ _ _ _ _ _ _ _ _ q hq=>enterN q hq) (fun _ _ _ _ _ _ _ _ _ q hq nd pr kk hl=>leaveN q hq nd pr kk hl) h hnd hk hc hr
end Go.Proofs.YtgamjhpebmmjcaaGreatDoor
namespace Go.Proofs.YtgamjhpebmmjcaaGreatDoor
set_option maxRecDepth 100000
set_option maxHeartbeats 40000000
open Go.RowKit Flt
theorem run_num {st:LSt}{t:Tok}:runC 2 st [mkT [] (.num t)] []=some (oneL (putM st ⟨1,1,0,0,0,numK t.text⟩ t.pos)):=by
 simp only[runC,enterC,entE,kidsE,leaveC,valC,valE,List.map_nil,List.nil_append,List.length_nil]
 cases h:putM st ⟨1,1,0,0,0,numK t.text⟩ t.pos with
 |error q=>simp[oneL]
 |ok z=>obtain⟨s,a⟩:=z;simp[oneL,runC]
theorem run_neg {st:LSt}{o t:Tok}{r:Rs (LSt×Nat)}(hr:thenE (some (putM st ⟨1,1,0,0,0,numK t.text⟩ t.pos)) (fun s a=>some (putM s (vput 6 (lenA s a) (a:Nat) 0 0) o.pos))=some r):runC 4 st [mkT [] (.neg o (.num t))] []=some (oneL r):=by
 simp only[runC,enterC,entE,kidsE,leaveC,valC,valE,List.map_nil,List.nil_append,List.length_nil,List.map_cons,List.cons_append,List.length_cons]
 cases h:putM st ⟨1,1,0,0,0,numK t.text⟩ t.pos with
 |error q=>rw[h] at hr;simp only[thenE] at hr;cases hr;simp[oneL]
 |ok z=>
  obtain⟨s,a⟩:=z
  rw[h] at hr
  simp only[thenE,Option.some.injEq] at hr
  subst hr
  simp[runC]
  cases h2:putM s (vput 6 (lenA s a) (a:Nat) 0 0) o.pos with
  |error q=>simp[oneL,kidsE,leaveC,valC,valE,h2]
  |ok z=>obtain⟨s2,a2⟩:=z;simp[oneL,kidsE,leaveC,valC,valE,h2,runC]
theorem sim_runs {f:Nat}{st:LSt}{e:Ex}{r:Rs (LSt×Nat)}(hs:SimE e)(h:evalE f st [] e=some r):∃n,runC n st [mkT [] e] []=some (oneL r):=by
 rcases hs with⟨t,rfl⟩|⟨o,t,rfl⟩
 ·cases f with
  |zero=>simp[evalE] at h
  |succ f=>
   simp only[evalE,Option.some.injEq] at h
   subst h
   exact⟨2,run_num⟩
 ·cases f with
  |zero=>simp[evalE] at h
  |succ f=>
   cases f with
   |zero=>simp[evalE,thenE] at h
   |succ f=>
    simp only[evalE] at h
    exact⟨4,run_neg h⟩
end Go.Proofs.YtgamjhpebmmjcaaGreatDoor
namespace Go.Proofs.YtgamjhpebmmjcaaGreatDoor
set_option maxRecDepth 100000
set_option maxHeartbeats 40000000
open Go.RowKit Flt
attribute [local go_sem] alloc_drewN setCell_drewN run_store_float fld0 fld1 fld2 mkF
theorem BS.set2 {w:World}{P:Nat}{u1 u3:Value}{vs:List Vl}{c:Int}{base:Nat}{R:Option Nat}{vv:Value}(h:BS w P u1 u3 vs c base R vv)(v:Value):BS (w.setCell ⟨P,2,none⟩ v) P u1 v vs c base R vv where
 lt:=by simpa[go_sem] using h.lt
 free:=fun o=>by rw[World.frozen?_setCell];exact h.free o
 c0:=by rw[T_oth (by decide)];exact h.c0
 c1:=by rw[T_oth (by decide)];exact h.c1
 c2:=by rw[World.cell?_setCell_same (h:=h.c2)]
 c3:=by rw[T_oth (by decide)];exact h.c3
 own:=own_setCell h.own (by rw[h.row];exact h.ne)
 row:=h.row
 ne:=h.ne
 sz:=by simpa[go_sem] using h.sz
theorem Tq.outs {E:Tqe}{ρ:Nat→Nat}{W W1:World}{st:LSt}{L:List TkV}{xs:List Nat}{u1 vv tv xv:Value}{a g n cap:Nat}
  (hB:TqB E ρ W st.ins st.vs st.outs u1 E.u3 vv) (hT:TqT E ρ W st.names st.calls L xs tv xv) (c:Chg (fun b=>E.u3.ownBlock=some b) W W1) (hg:E.u3.ownBlock=some g∨g=W.heap.size) (hlt:g<W1.heap.size)
  (hn:n=(st.outs++[(a:Int)]).length) (hrow:W1.ownsRow E.N 3 1 (.slice (some ⟨g,0,none⟩) n cap) n (intsI (st.outs++[(a:Int)]))):
  ∃ρ',Tq {E with u3:=.slice (some ⟨g,0,none⟩) n cap} ρ' (W1.setCell ⟨E.P,2,none⟩ (.slice (some ⟨g,0,none⟩) n cap)) {st with outs:=st.outs++[(a:Int)]} L xs∧Sco ρ W ρ' (W1.setCell ⟨E.P,2,none⟩ (.slice (some ⟨g,0,none⟩) n cap)):=by
 have c2:=chg_set c E.P 2 (.slice (some ⟨g,0,none⟩) n cap)
 have hcol:∀b,(E.u3.ownBlock=some b∨b=E.P)→ρ b=1∨ρ b=7:=fun b q=>q.elim (fun q=>.inr (hB.ro b q)) (fun q=>.inl (by rw[q];exact hB.rP))
 have hgP:g≠E.P:=fun e=>by
  rcases hg with d|d
  ·have h7:=hB.ro _ d;have:=hB.rP;rw[e] at h7;omega
  ·have:=hB.b.lt;omega
 have hb2:BS (W1.setCell ⟨E.P,2,none⟩ (.slice (some ⟨g,0,none⟩) n cap)) E.P u1 (.slice (some ⟨g,0,none⟩) n cap) st.vs (cellsV st.vs) E.N vv.ownBlock vv:=(hB.b.chg c (fun q=>by have q:E.u3.ownBlock=some E.P:=q;have:=hB.ro _ q;have:=hB.rP;omega) (fun b e q=>by have q:E.u3.ownBlock=some b:=q;have:=hB.ro _ q;have:=hB.rR _ e;omega)).set2 _
 have hi2:=own_chg hB.i c2 (fun b e q=>by have:=hB.ri b e;have:=hcol b q;omega)
 have hrow2:(W1.setCell ⟨E.P,2,none⟩ (.slice (some ⟨g,0,none⟩) n cap)).ownsRow E.N 3 1 (.slice (some ⟨g,0,none⟩) n cap) (st.outs++[(a:Int)]).length (intsI (st.outs++[(a:Int)])):=by
  rw[←hn]
  exact own_setCell hrow (fun q=>hgP (by simpa[Value.ownBlock] using q))
 have hsz:(W1.setCell ⟨E.P,2,none⟩ (.slice (some ⟨g,0,none⟩) n cap)).heap.size=W1.heap.size:=by simp[go_sem]
 have fin:∀ρ':Nat→Nat,(∀b,b<W.heap.size→ρ' b=ρ b)→(∀b,W1.heap.size≤b→ρ' b=0)→ρ' g=7→Tq {E with u3:=.slice (some ⟨g,0,none⟩) n cap} ρ' (W1.setCell ⟨E.P,2,none⟩ (.slice (some ⟨g,0,none⟩) n cap)) {st with outs:=st.outs++[(a:Int)]} L xs∧Sco ρ W ρ' (W1.setCell ⟨E.P,2,none⟩ (.slice (some ⟨g,0,none⟩) n cap)):=fun ρ' e eN e7=>by
  have ro:∀b,(Value.slice (some ⟨g,0,none⟩) n cap).ownBlock=some b→ρ' b=7:=fun b q=>by
   have:g=b:=by simpa[Value.ownBlock] using q
   rw[←this];exact e7
  have hT2:TqT E ρ' (W1.setCell ⟨E.P,2,none⟩ (.slice (some ⟨g,0,none⟩) n cap)) st.names st.calls L xs tv xv:=hT.chg c2 (fun b _ q=>by have:=hcol b q;omega) e (fun b hb=>eN b (by rw[hsz] at hb;exact hb))
  exact⟨⟨u1,.slice (some ⟨g,0,none⟩) n cap,vv,tv,xv,⟨hb2,hi2,hrow2,(e _ hB.b.lt).trans hB.rP,fun b q=>(e b (own_blkV hB.b.own q).2).trans (hB.rR b q),fun b q=>(e b (own_blkV hB.i q).2).trans (hB.ri b q),ro,hB.e1,rfl⟩,⟨⟨hT2.lt,hT2.fz,hT2.t0,hT2.t1,hT2.t2,hT2.t3,hT2.t4,hT2.t5⟩,hT2.k,hT2.x,hT2.v,hT2.f,hT2.l,hT2.rT,hT2.rV,hT2.rF,hT2.rk,hT2.rx,hT2.r0,hT2.rN,hT2.sz⟩⟩,Sco.of c2 (fun b _ q=>by have:=hcol b q;omega) e⟩
 rcases hg with d|d
 ·exact⟨ρ,fin ρ (fun _ _=>rfl) (fun b hb=>hT.rN b (Nat.le_trans c.size hb)) (hB.ro g d)⟩
 ·refine⟨colr ρ g 7,fin _ (colr_lt (by omega)) (fun b hb=>?_) (colr_same _ _ _)⟩
  unfold colr
  rw[if_neg (by omega)]
  exact hT.rN b (Nat.le_trans c.size hb)
theorem Tq.open' {E:Tqe}{ρ:Nat→Nat}{W:World}{st:LSt}{L:List TkV}{xs:List Nat}(h:Tq E ρ W st L xs):∃vv tv xv,TqB E ρ W st.ins st.vs st.outs E.u1 E.u3 vv∧TqT E ρ W st.names st.calls L xs tv xv:=by
 obtain⟨u1,u3,vv,tv,xv,hB,hT⟩:=h
 have e1:=hB.e1
 have e3:=hB.e3
 subst e1 e3
 exact⟨vv,tv,xv,hB,hT⟩
theorem far_C {W W9:World}{b o:Nat}{u v:Value}{ob:Obj}(hc:W.cell? ⟨b,o,none⟩=some v)(hl:b<W.heap.size)(hn:u.ownBlock≠some b)(hg:(W.alloc ob).grownBy W9 u.ownBlock):W9.cell? ⟨b,o,none⟩=some v:=
 ((chg_grow hg).cell (p:=⟨b,o,none⟩) (Nat.lt_of_lt_of_le hl (kept_alloc 0 0 W ob).size) (fun q=>hn q)).trans (kcell (kept_alloc 0 0 W ob) hl hc)
theorem far_Z {W W9:World}{b o:Nat}{u:Value}{ob:Obj}(hc:W.frozen? ⟨b,o,none⟩=false)(hl:b<W.heap.size)(hn:u.ownBlock≠some b)(hg:(W.alloc ob).grownBy W9 u.ownBlock):W9.frozen? ⟨b,o,none⟩=false:=
 ((chg_grow hg).frozen (p:=⟨b,o,none⟩) (Nat.lt_of_lt_of_le hl (kept_alloc 0 0 W ob).size) (fun q=>hn q)).trans (((kept_alloc 0 0 W ob).frozen (p:=⟨b,o,none⟩) hl (by omega)).trans hc)
end Go.Proofs.YtgamjhpebmmjcaaGreatDoor
namespace Go.Proofs.YtgamjhpebmmjcaaGreatDoor
set_option maxRecDepth 100000
set_option maxHeartbeats 40000000
open Go.RowKit Flt
theorem me_out (x0 x1 x2 x3:Value)(w:World):Sem.run Tryz.prog (method 489 170 (.agg #[x0,x1,x2,x3]) "loop.example/s08086/impl.carryOut") w=.ok (209,.agg #[x0,x1,x2,x3]) w:=by kernel_rfl
end Go.Proofs.YtgamjhpebmmjcaaGreatDoor
namespace Go.Proofs.YtgamjhpebmmjcaaGreatDoor
set_option maxRecDepth 100000
set_option maxHeartbeats 40000000
open Go.RowKit Flt
theorem all_cls (t:List UInt8):∀k∈allT t,TkC k:=toks_cls t _
theorem num_tok {t:List UInt8}{i:Nat}{k:PTk}(h:(Tl t (allT t))[i]? =some k)(hn:numB k=true):∃hi:i<(allT t).length,k=cvT (allT t)[i]∧isN (allT t)[i]∧k.text=(allT t)[i].text∧k.at_=(allT t)[i].pos:=by
 unfold Tl at h
 rcases Nat.lt_or_ge i (allT t).length with c|c
 ·rw[List.getElem?_append_left (by rw[List.length_map];exact c),List.getElem?_map,List.getElem?_eq_getElem c] at h
  simp only[Option.map_some,Option.some.injEq] at h
  refine⟨c,h.symm,?_⟩
  have hc:=all_cls t _ (List.getElem_mem c)
  have hk:=cv_kind hc
  have hN:isN (allT t)[i]:=by
   unfold numB at hn
   rw[←h] at hn
   simp only[Bool.or_eq_true,beq_iff_eq] at hn
   rcases hn with q|q
   ·exact .inl (hk.2.1.1 q)
   ·exact .inr (hk.2.2.1.1 q)
  have hne:(allT t)[i].sym≠[]:=by rcases hN with q|q<;>rw[q]<;>decide
  refine⟨hN,?_,?_⟩
  ·rw[←h];unfold cvT;rw[if_neg hne]
  ·rw[←h];exact cv_at _
 ·rw[List.getElem?_append_right (by rw[List.length_map];exact c)] at h
  exfalso
  unfold clT at h
  split at h
  ·simp at h
  ·have hm:=List.mem_of_getElem? h
   simp at hm
   rw[hm] at hn
   have e0:numB (⟨0,[],t.length⟩:PTk)=false:=rfl
   rw[e0] at hn
   cases hn
theorem dc_dig {x:List UInt8}(h:Good (numsOf x)):dcM x=((numsOf x).countP dig:Nat):=by
 have h1:=good_count h
 rw[nums_len] at h1
 unfold dcM
 omega
end Go.Proofs.YtgamjhpebmmjcaaGreatDoor
namespace Go.Proofs.YtgamjhpebmmjcaaGreatDoor
set_option maxRecDepth 100000
set_option maxHeartbeats 40000000
open Go.RowKit Flt
theorem own_ltP {W:World}{b:Nat}{v:Value}{xs:List PTk}(h:PkR W b v xs){g:Nat}(e:v.ownBlock=some g):g<W.heap.size:=by
 rcases h.2 with⟨h1,_⟩|⟨g',cap,cur,h1,_,h2,_⟩
 ·rw[h1] at e;cases e
 ·rw[h1] at e
  have e2:g'=g:=by injection e
  subst e2
  rcases Nat.lt_or_ge g' W.heap.size with c|c
  ·exact c
  ·rw[Array.getElem?_eq_none c] at h2;cases h2
theorem Sd.lt {W:World}{M:Nat→Prop}{v:Value}{s:Sm}(f:Sd W M v s):Sd W (fun b=>b<W.heap.size) v s:=by
 cases f with
 |inS=>exact .inS
 |letS h=>exact .letS (h.lt.mono fun b q=>q.2)
 |rep h=>exact .rep (h.lt.mono fun b q=>q.2)
 |defS h h2 h3=>exact .defS h (fun b e=>own_ltP h e) (h3.lt.mono fun b q=>q.2)
 |outS h=>exact .outS (h.lt.mono fun b q=>q.2)
theorem SdL.lt {W:World}{M:Nat→Prop}{vs:List Value}{ss:List Sm}(f:SdL W M vs ss):SdL W (fun b=>b<W.heap.size) vs ss:=⟨f.1,fun j v s h1 h2=>(f.2 j v s h1 h2).lt⟩
end Go.Proofs.YtgamjhpebmmjcaaGreatDoor
