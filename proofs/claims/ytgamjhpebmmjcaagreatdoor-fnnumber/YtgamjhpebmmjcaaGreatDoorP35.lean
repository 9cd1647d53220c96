import Derived.Test.YtgamjhpebmmjcaaGreatDoorP32
import Derived.Deep.CutRange
import Derived.Deep.CutBlock
import Derived.Deep.DeepCutAuto
namespace Go.Proofs.YtgamjhpebmmjcaaGreatDoor
set_option maxRecDepth 100000
set_option maxHeartbeats 40000000
open Go.RowKit Flt
structure OpI (E:Pe)(w W:World)(bx bi at_:Nat)(sl:Value)(vs:List Value)(es:List Ex)(ws:List Tok):Prop where
 c0:W.cell? ⟨bi,0,none⟩=some (.int .i64 (at_:Int))
 c1:W.cell? ⟨bi,1,none⟩=some sl
 fz:∀o,W.frozen? ⟨bi,o,none⟩=false
 r0:(W.cell? ⟨bx,0,none⟩).isSome=true
 r1:(W.cell? ⟨bx,1,none⟩).isSome=true
 rf:∀o,W.frozen? ⟨bx,o,none⟩=false
 o0:E.P<w.heap.size
 oN:E.N≤w.heap.size
 o1:w.heap.size≤bx
 o2:bx<bi
 o3:bi<W.heap.size
 G:NdG W (bi+1) sl vs es
 ps:Ps E W ws
 ch:Ch E w W
theorem OpI.far {E:Pe}{w W W5:World}{bx bi at_:Nat}{sl:Value}{vs:List Value}{es:List Ex}{ws ws5:List Tok}{S:Nat→Prop}(f:OpI E w W bx bi at_ sl vs es ws)(c:Chg S W W5)(hS:∀b,S b→b<w.heap.size)(h:Ps E W5 ws5)(hc:Ch E w W5):OpI E w W5 bx bi at_ sl vs es ws5:=by
 have h1:=f.o1
 have h2:=f.o2
 have h3:=f.o3
 have ni:¬S bi:=fun e=>by have:=hS _ e;omega
 have nx:¬S bx:=fun e=>by have:=hS _ e;omega
 have hx:bx<W.heap.size:=by omega
 refine⟨?_,?_,fun o=>?_,?_,?_,fun o=>?_,f.o0,f.oN,f.o1,f.o2,Nat.lt_of_lt_of_le f.o3 c.size,f.G.chg c (fun b e=>by have:=hS b e;omega),h,hc⟩
 ·rw[c.cell (p:=⟨bi,0,none⟩) h3 ni];exact f.c0
 ·rw[c.cell (p:=⟨bi,1,none⟩) h3 ni];exact f.c1
 ·rw[c.frozen (p:=⟨bi,o,none⟩) h3 ni];exact f.fz o
 ·rw[c.cell (p:=⟨bx,0,none⟩) hx nx];exact f.r0
 ·rw[c.cell (p:=⟨bx,1,none⟩) hx nx];exact f.r1
 ·rw[c.frozen (p:=⟨bx,o,none⟩) hx nx];exact f.rf o
theorem OpI.call {E:Pe}{w W W5:World}{bx bi at_:Nat}{sl:Value}{vs:List Value}{es:List Ex}{ws ws5:List Tok}(f:OpI E w W bx bi at_ sl vs es ws)(c:Ch E W W5)(h:Ps E W5 ws5):OpI E w W5 bx bi at_ sl vs es ws5:=f.far c (fun b e=>by have:=f.o0;omega) h (f.ch.andThen c)
theorem OpI.keep {E:Pe}{w W W5:World}{bx bi at_:Nat}{sl:Value}{vs:List Value}{es:List Ex}{ws:List Tok}(f:OpI E w W bx bi at_ sl vs es ws)(k:Kept 0 0 W W5):OpI E w W5 bx bi at_ sl vs es ws:=f.far (k.chg (S:=fun _=>False)) (fun _ e=>e.elim) (f.ps.keep k) (f.ch.andThen k.chg)
theorem OpI.grown {E:Pe}{w W W9:World}{bx bi at_:Nat}{sl:Value}{vs:List Value}{es:List Ex}{ws:List Tok}(f:OpI E w W bx bi at_ sl vs es ws)(c:Chg (fun b=>sl.ownBlock=some b) W W9):W9.cell? ⟨bi,1,none⟩=some sl∧W9.frozen? ⟨bi,1,none⟩=false∧bi<W9.heap.size:=by
 have hn:¬sl.ownBlock=some bi:=fun e=>by have:=f.G.fr bi e;omega
 exact⟨(c.cell (p:=⟨bi,1,none⟩) f.o3 hn).trans f.c1,(c.frozen (p:=⟨bi,1,none⟩) f.o3 hn).trans (f.fz 1),Nat.lt_of_lt_of_le f.o3 c.size⟩
theorem OpI.push {E:Pe}{w W W9:World}{bx bi at_ m g N cap:Nat}{sl:Value}{vs:List Value}{es:List Ex}{ws:List Tok}{v:Value}{e:Ex}(f:OpI E w W bx bi at_ sl vs es ws)(h:Nd W (Fr m) v e)(hl:∀b,sl.ownBlock=some b→b<m)(hnm:bi+1≤m)(hW:m≤W.heap.size){W2:World}(ka:Kept 0 0 W W2)(c:Chg (fun b=>sl.ownBlock=some b) W2 W9)(hN:N=(vs++[v]).length)(hrow:W9.ownsRow 0 167 1 (.slice (some ⟨g,0,none⟩) N cap) N (vs++[v]))(hat:sl.ownBlock=some g∨g=W2.heap.size):OpI E w (W9.setCell ⟨bi,1,none⟩ (.slice (some ⟨g,0,none⟩) N cap)) bx bi at_ (.slice (some ⟨g,0,none⟩) N cap) (vs++[v]) (es++[e]) ws:=by
 have f2:=f.keep ka
 have hG:=f.G.more h hl hnm hW ka c hN hrow hat
 have h1:=f.o1
 have h2:=f.o2
 have h3:=f2.o3
 have hfr:=f.G.fr
 have hn:¬sl.ownBlock=some bi:=fun e=>by have:=hfr bi e;omega
 have hnx:¬sl.ownBlock=some bx:=fun e=>by have:=hfr bx e;omega
 have hx:bx<W2.heap.size:=by omega
 have d1:(⟨bi,1,none⟩:Addr)≠⟨bi,0,none⟩:=by simp
 have cs:=chg_setCell (S:=fun b=>b=bi) W9 bi 1 (.slice (some ⟨g,0,none⟩) N cap) rfl
 have h9:bi<W9.heap.size:=Nat.lt_of_lt_of_le h3 c.size
 have hx9:bx<W9.heap.size:=Nat.lt_of_lt_of_le hx c.size
 refine⟨?_,?_,fun o=>?_,?_,?_,fun o=>?_,f.o0,f.oN,f.o1,f.o2,?_,hG.chg cs (fun b e=>by omega),?_,?_⟩
 ·rw[World.cell?_setCell_other (h:=d1),c.cell (p:=⟨bi,0,none⟩) h3 hn];exact f2.c0
 ·exact World.cell?_setCell_same (h:=(c.cell (p:=⟨bi,1,none⟩) h3 hn).trans f2.c1) ..
 ·rw[World.frozen?_setCell,c.frozen (p:=⟨bi,o,none⟩) h3 hn];exact f2.fz o
 ·rw[cs.cell (p:=⟨bx,0,none⟩) hx9 (Nat.ne_of_lt h2),c.cell (p:=⟨bx,0,none⟩) hx hnx];exact f2.r0
 ·rw[cs.cell (p:=⟨bx,1,none⟩) hx9 (Nat.ne_of_lt h2),c.cell (p:=⟨bx,1,none⟩) hx hnx];exact f2.r1
 ·rw[World.frozen?_setCell,c.frozen (p:=⟨bx,o,none⟩) hx hnx];exact f2.rf o
 ·exact Nat.lt_of_lt_of_le h9 cs.size
 ·have hN:=f.oN
  exact(f2.ps.far c (fun b e=>by have:=hfr b e;omega)).far cs (fun b e=>by omega)
 ·exact(f2.ch.new c (fun b hb e=>by have:=hfr b e;omega)).new cs (fun b hb e=>by omega)
theorem OpI.start {E:Pe}{w W:World}{bx bi at_:Nat}{ws:List Tok}(c0:W.cell? ⟨bi,0,none⟩=some (.int .i64 (at_:Int)))(c1:W.cell? ⟨bi,1,none⟩=some nilS)(fz:∀o,W.frozen? ⟨bi,o,none⟩=false)(r0:(W.cell? ⟨bx,0,none⟩).isSome=true)(r1:(W.cell? ⟨bx,1,none⟩).isSome=true)(rf:∀o,W.frozen? ⟨bx,o,none⟩=false)(o0:E.P<w.heap.size)(oN:E.N≤w.heap.size)(o1:w.heap.size≤bx)(o2:bx<bi)(o3:bi<W.heap.size)(ps:Ps E W ws)(ch:Ch E w W):OpI E w W bx bi at_ nilS [] [] ws:=⟨c0,c1,fz,r0,r1,rf,o0,oN,o1,o2,o3,NdG.nil _ _,ps,ch⟩
end Go.Proofs.YtgamjhpebmmjcaaGreatDoor
namespace Go.Proofs.YtgamjhpebmmjcaaGreatDoor
set_option maxRecDepth 100000
set_option maxHeartbeats 40000000
open Go.RowKit Flt
attribute [local go_sem] alloc_drewN setCell_drewN run_store_float fld0 fld1 fld2 mkF
def stM:Nat→List (List UInt8)
 |0=>[]
 |m+1=>[44]::pEXPR::stM m
def GOp (w:World)(k:Tok)(n:Nat)(us:List Tok)(v:Value)(w':World):Prop:=∃l t1 es vs sl,us=k::l::t1∧l.sym=[40]∧Pr 3 es t1∧es.length=n∧v=.agg #[.int .i64 (k.pos:Int),sl]∧NdG w' w.heap.size sl vs es
theorem box2_set (w:World)(b:Nat)(x y:Value)(h0:(w.cell? ⟨b,0,none⟩).isSome=true)(h1:(w.cell? ⟨b,1,none⟩).isSome=true):
  ((w.setCell ⟨b,0,none⟩ x).setCell ⟨b,1,none⟩ y).cell? ⟨b,0,none⟩=some x∧((w.setCell ⟨b,0,none⟩ x).setCell ⟨b,1,none⟩ y).cell? ⟨b,1,none⟩=some y∧Chg (fun i=>i=b) w ((w.setCell ⟨b,0,none⟩ x).setCell ⟨b,1,none⟩ y):=by
 have n1:(⟨b,0,none⟩:Addr)≠⟨b,1,none⟩:=by simp
 refine⟨?_,?_,(chg_setCell (S:=fun i=>i=b) w b 0 x rfl).andThen (chg_setCell _ b 1 y rfl)⟩
 ·rw[World.cell?_setCell_other (h:=n1.symm),World.cell?_setCell_same' _ _ _ h0]
 ·rw[World.cell?_setCell_same' _ _ _ (by rw[World.cell?_setCell_other (h:=n1)];exact h1)]
theorem openedS {E:Pe}{n:Nat}(hX:XC E 97 [pEXPR] 2 n){w:World}{k:Tok}{us0:List Tok}(f:Ps E w (k::us0))(hlen:us0.length<n+1)(hk:k.sym∈keysL){m:Nat}(hm:m≤2):Calls Tryz.prog 177 #[.pointer (some ⟨E.P,0,none⟩),.int .i64 ((m:Int)+1)] w (Ot E w (k::us0) (k.sym::[40]::pEXPR::stM m) (GOp w k (m+1))):=by
 have hks:=spec_no _ (List.mem_append_left marksL hk)
 have HX:Hid _:=hX
 have HL:Hid (us0.length<n+1):=hlen
 have HPw:Hid (E.P<w.heap.size∧E.N≤w.heap.size):=f.nw
 have HT:Hid (∀W,Kept 0 0 w W→_):=fun W kk=>takeS (f.keep kk) hks.1
 have HKa:Hid _:=kept_alloc 0 0 w
 have HW0:Hid (∀r,wrongM E.t.length (k::us0) (k.sym::r)=wrongM E.t.length us0 r):=fun r=>wrong_yes (spec_part _ (List.mem_append_left marksL hk)) rfl r
 have HA:Hid ((cvT k).at_=k.pos):=cv_at k
 have HBx:Hid (∀w3,Ch E _ w3→_):=fun w3 c=>box_at w w3 #[.int .i64 0,nilS] 247 c (fun e=>by have:=f.nw.1;omega)
 clear hX f hlen hks hk
 go_enter Tryz.func177,Tryz.ntmps177
 go_upto_region 2 with (go_at_call 96;refine Calls.mono (HT.out _ (HKa.out _)) ?_;rintro e w1 ⟨rfl,hT1,hC1⟩;unfold tkV)
 have HO1:Hid (OpI E w (w1.alloc (.cells #[.int .i64 ((cvT k).at_:Int),nilS] 247)) w.heap.size w1.heap.size (cvT k).at_ nilS [] [] us0):=by
  have ka:=kept_alloc 0 0 w1 (.cells #[.int .i64 ((cvT k).at_:Int),nilS] 247)
  obtain⟨x1,x2,x3⟩:=HBx.out _ (hC1.andThen ka.chg)
  obtain⟨y1,y2,y3⟩:=box_at w1 _ #[.int .i64 ((cvT k).at_:Int),nilS] 247 (Kept.refl 0 0 _).chg (S:=fun _=>False) (fun c=>c)
  exact OpI.start (y1 0) (y1 1) y2 (by rw[x1 0];rfl) (by rw[x1 1];rfl) x2 HPw.out.1 HPw.out.2 (Nat.le_refl _) (Nat.lt_of_lt_of_le (by simp) hC1.size) y3 (hT1.keep ka) (((HKa.out _).chg.andThen hC1).andThen ka.chg)
 have HM:Hid _:=takeMarkS HO1.out.ps (s:=[40]) (by decide)
 clear hT1 hC1 HT HBx
 generalize w1.alloc (.cells #[.int .i64 ((cvT k).at_:Int),nilS] 247)=w2 at*
 generalize w1.heap.size=bi at*
 have HWx:Hid (w.heap.size=w.heap.size):=rfl
 generalize hbx:w.heap.size=bx at HO1 ⊢
 go_upto_region 3 with (go_at_call 99;refine Calls.mono HM.out ?_;rintro e w3 (⟨us3,ws3,v3,rfl,hsp3,hw3,hT3,hC3,l,rfl,hl,rfl⟩|⟨p,rfl,hw3,hC3⟩);rotate_left;exact And.intro rfl (Ot.bad (ts:=k::us0) (st:=k.sym::[40]::pEXPR::stM m) (st2:=[40]::pEXPR::stM m) (fun r=>HW0.out _) HO1.out.ch (fun r=>hw3.out (pEXPR::(stM m++r))) hC3))
 have HO2:Hid (OpI E w w3 bx bi (cvT k).at_ nilS [] [] ws3):=HO1.out.call hC3 hT3
 have HW2:Hid (∀r,wrongM E.t.length (k::us0) (k.sym::[40]::pEXPR::stM m++r)=wrongM E.t.length ws3 (pEXPR::(stM m++r))):=fun r=>(HW0.out _).trans (hw3.out (pEXPR::(stM m++r)))
 have HL2:Hid (ws3.length<n):=by have:=HL.out;rw[hsp3.out] at this;simp at this;exact this
 have HLs:Hid (l.sym=[40]):=hl
 have s1:=HO2.out.c1
 have s2:=HO2.out.fz 1
 have s3:=HO2.out.o3
 have HT3:Hid (Ps E w3 ws3):=hT3
 obtain⟨i0,hi0,hz0,hz1,hz2⟩:=infoNd_parts
 clear hT3 hC3 HM HO1 hl
 go_cut [] (fun wx=>∃(us5 ws5:List Tok) (e5:Ex) (g cap:Nat) (v:Value),Hid (ws3=us5++ws5)∧Hid (∀r,wrongM E.t.length ws3 (pEXPR::r)=wrongM E.t.length ws5 r)∧Hid (Pr 3 [e5] us5)∧Hid (OpI E w wx bx bi (cvT k).at_ (.slice (some ⟨g,0,none⟩) 1 cap) [v] [e5] ws5))
 case first=>
  go_region_law (first
   |((fail_if_success (exfalso;refine absurd hC5.size ?_));go_simp;go_wp2_with (first|(go_at_call 97;refine Calls.mono (HX.out _ ws3 (HO2.out.ps.keep (kept_drew _)) HL2.out) ?_;rintro e w5 (⟨us5,ws5,v5,rfl,hsp5,hw5,hT5,hC5,e5,hPr5,hNd5⟩|⟨p,rfl,hw5,hC5⟩);rotate_left;exact And.intro rfl (Ot.bad (ts:=k::us0) (st:=k.sym::[40]::pEXPR::stM m) (st2:=pEXPR::stM m) HW2.out (HO2.out.ch.andThen (kept_drew _).chg) (fun r=>hw5.out (stM m++r)) hC5);obtain⟨T5,x5,rfl⟩:=hNd5.iface;have hn5:=cell_new1 w5 (.iface T5 x5) 167;have HO5:Hid _:=(HO2.out.keep (kept_drew _)).call hC5 hT5;have c15:=HO5.out.c1;have c15a:=(HO5.out.keep (kept_alloc 0 0 w5 (.cells #[.iface T5 x5] 167))).c1;have hb5:=HO5.out.o3)|fail))
   |((first|rw[if_pos (by simp[Region.wanted])]|fail "rw");(first|refine wp_append_lies (w5.alloc (.cells #[.iface T5 x5] 167)) (.tmp 13) (.tmp 16) 245 rfl 0 167 i0 .nilIface 1 16 Tryz.underlying245 hi0 hz0 hz1 hz2 rfl (by decide) nilS 0 [] ?_ (HO5.out.keep (kept_alloc 0 0 w5 (.cells #[.iface T5 x5] 167))).G.row ⟨w5.heap.size,0,none⟩ 1 1 [.iface T5 x5] ?_ rfl (cell_one_new _ _ _) ?_ (by decide) ?_ ?_ ?_ _ rfl ?_|fail "refine");(focus first|rfl|simp[Act.eval]|fail "e1");(focus first|rfl|simp[Act.eval]|fail "e2");(focus first|(intro u hu;cases hu with|head=>rfl|tail _ h=>cases h)|fail "e3");(focus first|exact Nat.le_trans (show 0+1≤5000 by omega) (by decide)|fail "e4");(focus first|exact(show(0+1)*16≤140737488355328 by omega)|fail "e5");(focus first|exact Nat.zero_le _|fail "e6");(first|intro g9 cap9 w9 hown9 hg9 hat9 hlt9|fail "intro");(first|obtain⟨m3,mf3,ms3⟩:=(HO5.out.keep (kept_alloc 0 0 w5 (.cells #[.iface T5 x5] 167))).grown (chg_grow hg9)|fail "obtain")))
  all_goals
   have ka:=kept_alloc 0 0 w5 (.cells #[.iface T5 x5] 167)
   have HO9:Hid _:=HO5.out.push (v:=.iface T5 x5) hNd5 (fun b e=>by cases e) (show bi+1≤w3.drew.heap.size from s3) hC5.size ka (chg_grow hg9) rfl hown9 (hat9.imp id (fun e=>e.trans (by simp)))
   have HPr5:Hid (Pr 3 [e5] us5):=.arg1 hPr5
   clear hown9 hg9 hat9 hlt9 m3 mf3 ms3 ka hNd5 hC5 hT5 HO5 c15 c15a hb5 hn5 hPr5
   go_wp2_with fail
   go_meet
   exact⟨us5,ws5,e5,g9,cap9,.iface T5 x5,hsp5,fun r=>hw5.out r,HPr5,HO9⟩
 case rest=>
  obtain⟨us5,ws5,e5,g5,cap5,v5,hsp5,hw5,hPr5,HO5⟩:=hcut
  have HG0:Hid (Pr 3 [e5] us5):=hPr5
  have HW5:Hid (∀r,wrongM E.t.length (k::us0) (k.sym::[40]::pEXPR::stM m++r)=wrongM E.t.length ws5 (stM m++r)):=fun r=>(HW2.out r).trans (hw5.out (stM m++r))
  have HB3:Hid (ws3.length≤4001):=HT3.out.len
  clear s1 s2 s3 HO2 HW2 hw5 HT3 hPr5
  go_wp2_with fail
  go_loopg [] m (fun q W=>∃(es:List Ex) (vs:List Value) (us ws:List Tok) (g N cap:Nat),N+q=m+1∧Hid (vs.length=N)∧Hid (es.length=N)∧Hid (ws3=us++ws)∧Hid (Pr 3 es us)∧Hid (OpI E w W bx bi (cvT k).at_ (.slice (some ⟨g,0,none⟩) N cap) vs es ws)∧Hid (∀r,wrongM E.t.length (k::us0) (k.sym::[40]::pEXPR::stM m++r)=wrongM E.t.length ws (stM q++r)))
  case atStart=>exact⟨[e5],[v5],us5,ws5,g5,1,cap5,by omega,rfl,rfl,hsp5,HG0,HO5,HW5⟩
  case round=>
   clear HO5 HW5 HG0 hsp5
   obtain⟨es,vs,us,ws,g,N,cap,hNq,hvN,heN,hsp,hPr,HO6,HW6⟩:=hrel
   have s1:=HO6.out.c1
   match gk,hNq,HW6 with
   |0,hNq,HW6=>
    have s0:=HO6.out.c0
    have hN1:N=m+1:=by omega
    obtain⟨z0,ez0⟩:=Option.isSome_iff_exists.1 HO6.out.r0
    obtain⟨z1,ez1⟩:=Option.isSome_iff_exists.1 HO6.out.r1
    have f0:=HO6.out.rf 0
    have f1:=HO6.out.rf 1
    have s3:=HO6.out.o3
    have s4:=HO6.out.o2
    subst hN1
    go_wp2
    obtain⟨d0,d1,hc⟩:=box2_set wr bx (.int .i64 ((cvT k).at_:Int)) (.slice (some ⟨g,0,none⟩) (m+1) cap) HO6.out.r0 HO6.out.r1
    generalize (wr.setCell ⟨bx,0,none⟩ (.int .i64 ((cvT k).at_:Int))).setCell ⟨bx,1,none⟩ (.slice (some ⟨g,0,none⟩) (m+1) cap)=w9 at d0 d1 hc
    refine bodyPost_ret (v:=.agg #[.int .i64 ((cvT k).at_:Int),.slice (some ⟨g,0,none⟩) (m+1) cap]) (by simp[results,Tryz.results177,go_sem,d0,d1]) rfl ?_
    have o1:=HO6.out.o1
    have oN:=HO6.out.oN
    have hG9:=HO6.out.G.chg hc (fun b e=>by omega)
    exact .inl ⟨k::l::us,ws,_,rfl,by show _=_;rw[hsp3.out,hsp.out];rfl,HW6,HO6.out.ps.far hc (fun b e=>by omega),HO6.out.ch.new hc (fun b h e=>by omega),l,us,es,vs,_,rfl,HLs.out,hPr.out,heN.out,by rw[HA.out],hG9.le (by omega)⟩
   |q+1,hNq,HW6=>
    have hlt:N<m+1:=by omega
    have HM:Hid _:=takeMarkS HO6.out.ps (s:=[44]) (by decide)
    have HNs:Hid (N≤4001):=by have h1:=pr_lenE hPr.out;have h2:=HB3.out;have h3:=heN.out;rw[hsp.out] at h2;simp at h2;show _≤_;omega
    go_upto_block 1 with fail
    go_cut [] from 19 to 32 (fun wx=>∃(us7 ws7:List Tok) (c:Tok) (e7:Ex) (g7 cap7:Nat) (v:Value),Hid (ws=c::(us7++ws7))∧Hid (c.sym=[44])∧Hid (∀r,wrongM E.t.length ws ([44]::pEXPR::r)=wrongM E.t.length ws7 r)∧Hid (Pr 2 [e7] us7)∧Hid (OpI E w wx bx bi (cvT k).at_ (.slice (some ⟨g7,0,none⟩) (N+1) cap7) (vs++[v]) (es++[e7]) ws7))
    case first=>
     go_upto_region 6 with (go_at_call 99;refine Calls.mono HM.out ?_;rintro e w7 (⟨us7,ws7,v7,rfl,hsp7,hw7,hT7,hC7,c,rfl,hc,rfl⟩|⟨p,rfl,hw7,hC7⟩);rotate_left;exact And.intro rfl (Ot.bad (ts:=k::us0) (st:=k.sym::[40]::pEXPR::stM m) (st2:=[44]::pEXPR::stM q) HW6.out HO6.out.ch (fun r=>hw7.out (pEXPR::(stM q++r))) hC7))
     have HO7:Hid (OpI E w w7 bx bi (cvT k).at_ (.slice (some ⟨g,0,none⟩) N cap) vs es ws7):=HO6.out.call hC7 hT7
     have HW7:Hid (∀r,wrongM E.t.length (k::us0) (k.sym::[40]::pEXPR::stM m++r)=wrongM E.t.length ws7 (pEXPR::(stM q++r))):=fun r=>(HW6.out r).trans (hw7.out (pEXPR::(stM q++r)))
     have HL7:Hid (ws7.length<n):=by have:=HL2.out;rw[hsp.out,hsp7.out] at this;simp at this;show _<_;omega
     have HCs:Hid (c.sym=[44]):=hc
     have hNb:=HNs.out
     have t1:=HO7.out.c1
     have t2:=HO7.out.fz 1
     have t3:=HO7.out.o3
     have hgl:=HO7.out.G.lt g rfl
     clear hT7 hC7 HM hc s1
     go_region_law (first
      |((fail_if_success (exfalso;refine absurd hC5.size ?_));go_simp;go_wp2_with (first|(go_at_call 97;refine Calls.mono (HX.out _ ws7 (HO7.out.ps.keep (kept_drew _)) HL7.out) ?_;rintro e w5 (⟨us5,ws5,v5,rfl,hsp5,hw5,hT5,hC5,e5,hPr5,hNd5⟩|⟨p,rfl,hw5,hC5⟩);rotate_left;exact And.intro rfl (Ot.bad (ts:=k::us0) (st:=k.sym::[40]::pEXPR::stM m) (st2:=pEXPR::stM q) HW7.out (HO7.out.ch.andThen (kept_drew _).chg) (fun r=>hw5.out (stM q++r)) hC5);obtain⟨T5,x5,rfl⟩:=hNd5.iface;have hn5:=cell_new1 w5 (.iface T5 x5) 167;have HO5:Hid _:=(HO7.out.keep (kept_drew _)).call hC5 hT5;have c15:=HO5.out.c1;have c15a:=(HO5.out.keep (kept_alloc 0 0 w5 (.cells #[.iface T5 x5] 167))).c1;have hb5:=HO5.out.o3)|fail))
      |((first|rw[if_pos (by simp[Region.wanted])]|fail "rw");(first|refine wp_append_lies (w5.alloc (.cells #[.iface T5 x5] 167)) (.tmp 27) (.tmp 30) 245 rfl 0 167 i0 .nilIface 1 16 Tryz.underlying245 hi0 hz0 hz1 hz2 rfl (by decide) (.slice (some ⟨g,0,none⟩) N cap) N vs ?_ (by have h:=(HO5.out.keep (kept_alloc 0 0 w5 (.cells #[.iface T5 x5] 167))).G.row;rw[hvN.out] at h;exact h) ⟨w5.heap.size,0,none⟩ 1 1 [.iface T5 x5] ?_ rfl (cell_one_new _ _ _) ?_ (by decide) ?_ ?_ ?_ _ rfl ?_|fail "refine");(focus first|rfl|simp[Act.eval]|fail "e1");(focus first|rfl|simp[Act.eval]|fail "e2");(focus first|(intro u hu;cases hu with|head=>rfl|tail _ h=>cases h)|fail "e3");(focus first|exact Nat.le_trans (show N+1≤5000 by omega) (by decide)|fail "e4");(focus first|exact(show(N+1)*16≤140737488355328 by omega)|fail "e5");(focus first|exact Nat.zero_le _|fail "e6");(first|intro g9 cap9 w9 hown9 hg9 hat9 hlt9|fail "intro");(first|obtain⟨m3,mf3,ms3⟩:=(HO5.out.keep (kept_alloc 0 0 w5 (.cells #[.iface T5 x5] 167))).grown (chg_grow hg9)|fail "obtain")))
     all_goals
      have ka:=kept_alloc 0 0 w5 (.cells #[.iface T5 x5] 167)
      have HO9:Hid _:=HO5.out.push (v:=.iface T5 x5) (N:=N+1) hNd5 (fun b e=>by cases e;exact hgl) (show bi+1≤w7.drew.heap.size from t3) hC5.size ka (chg_grow hg9) (by rw[List.length_append,hvN.out];rfl) hown9 (hat9.imp id (fun e=>e.trans (by simp)))
      have HPr5:Hid (Pr 2 [e5] us5):=hPr5
      clear hown9 hg9 hat9 hlt9 m3 mf3 ms3 ka hNd5 hC5 hT5 HO5 c15 c15a hb5 hn5 hPr5
      go_wp2_with fail
      go_meet
      exact⟨us5,ws5,c,e5,g9,cap9,.iface T5 x5,by show _=_;rw[hsp7.out,hsp5.out];rfl,HCs,fun r=>(hw7.out (pEXPR::r)).trans (hw5.out r),HPr5,HO9⟩
    case rest=>
     obtain⟨us7,ws7,c,e7,g7,cap7,v7,hsp7,hcs,hw7,hPr7,HO7⟩:=hcut
     go_wp2_with fail
     go_roundg q
     case measure=>omega
     case rel=>exact⟨es++[e7],vs++[v7],us++c::us7,ws7,g7,N+1,cap7,by omega,by show _=_;rw[List.length_append,hvN.out];rfl,by show _=_;rw[List.length_append,heN.out];rfl,by show _=_;rw[hsp.out,hsp7.out];simp,.argM hPr.out hcs.out hPr7.out,HO7,fun r=>(HW6.out r).trans (hw7.out (stM q++r))⟩
end Go.Proofs.YtgamjhpebmmjcaaGreatDoor
namespace Go.Proofs.YtgamjhpebmmjcaaGreatDoor
set_option maxRecDepth 100000
set_option maxHeartbeats 40000000
open Go.RowKit Flt
attribute [local go_sem] alloc_drewN setCell_drewN run_store_float fld0 fld1 fld2 mkF
theorem pr3_inv {es:List Ex}{ts:List Tok}(h:Pr 3 es ts):(∃e,es=[e]∧Pr 2 [e] ts)∨∃es' e t1 c t2,es=es'++[e]∧ts=t1++c::t2∧Pr 3 es' t1∧c.sym=[44]∧Pr 2 [e] t2:=by
 cases h with
 |arg1 h=>exact .inl ⟨_,rfl,h⟩
 |argM h1 h2 h3=>exact .inr ⟨_,_,_,_,_,rfl,rfl,h1,h2,h3⟩
theorem pr3_pos {es:List Ex}{ts:List Tok}(h:Pr 3 es ts):1≤es.length:=by
 rcases pr3_inv h with⟨e,rfl,_⟩|⟨es',e,_,_,_,rfl,_⟩<;>simp
theorem pr3_one {es:List Ex}{ts:List Tok}(h:Pr 3 es ts)(hl:es.length=1):∃e,es=[e]∧Pr 2 [e] ts:=by
 rcases pr3_inv h with h|⟨es',e,t1,c,t2,rfl,rfl,h1,_⟩
 ·exact h
 ·have:=pr3_pos h1
  simp at hl
  subst hl
  simp at this
theorem pr3_two {es:List Ex}{ts:List Tok}(h:Pr 3 es ts)(hl:es.length=2):∃a b t1 c t2,es=[a,b]∧ts=t1++c::t2∧Pr 2 [a] t1∧c.sym=[44]∧Pr 2 [b] t2:=by
 rcases pr3_inv h with⟨e,rfl,_⟩|⟨es',e,t1,c,t2,rfl,rfl,h1,h2,h3⟩
 ·simp at hl
 ·obtain⟨a,rfl,h4⟩:=pr3_one h1 (by simp at hl;exact hl)
  exact⟨a,e,t1,c,t2,rfl,rfl,h4,h2,h3⟩
theorem pr3_three {es:List Ex}{ts:List Tok}(h:Pr 3 es ts)(hl:es.length=3):∃a b d t1 c t2 c2 t3,es=[a,b,d]∧ts=t1++c::(t2++c2::t3)∧Pr 2 [a] t1∧c.sym=[44]∧Pr 2 [b] t2∧c2.sym=[44]∧Pr 2 [d] t3:=by
 rcases pr3_inv h with⟨e,rfl,_⟩|⟨es',e,t1,c,t2,rfl,rfl,h1,h2,h3⟩
 ·simp at hl
 ·obtain⟨a,b,u1,c0,u2,rfl,rfl,h4,h5,h6⟩:=pr3_two h1 (by simp at hl;exact hl)
  exact⟨a,b,e,u1,c0,u2,c,t2,rfl,by simp,h4,h5,h6,h2,h3⟩
theorem one_of {α β:Type}{vs:List α}{e:β}(h:vs.length=[e].length):∃v,vs=[v]:=by
 match vs,h with
 |[v],_=>exact⟨v,rfl⟩
theorem row_one {W:World}{T size:Nat}{sl:Value}{vs:List Value}(f:W.ownsRow 0 T size sl 1 vs):∃g cap,sl=.slice (some ⟨g,0,none⟩) 1 cap:=by
 rcases f.2 with⟨_,h⟩|⟨g,cap,cur,h1,_⟩
 ·cases h
 ·exact⟨g,cap,h1⟩
theorem norow_set {W:World}{b o:Nat}{v:Value}(f:NoRow W b):NoRow (W.setCell ⟨b,o,none⟩ v) b:=by
 intro cur q h
 simp only[World.setCell,Array.getElem?_modify,if_true] at h
 cases e:W.heap[b]? with
 |none=>rw[e] at h;cases h
 |some ob=>
  rw[e] at h
  simp only[Option.map_some,Option.some.injEq] at h
  cases ob with
  |cells c elem fz=>
   simp only[Obj.cells.injEq] at h
   rw[h.2.1] at e
   exact f _ _ e
  |_=>simp at h
structure JvI (E:Pe)(w W:World)(b3 at_:Nat)(sl:Value)(vs:List Value)(es:List Ex):Prop where
 c0:W.cell? ⟨b3,0,none⟩=some (.int .i64 (at_:Int))
 c1:W.cell? ⟨b3,1,none⟩=some sl
 fz:∀o,W.frozen? ⟨b3,o,none⟩=false
 lt3:b3<W.heap.size
 o0:E.P<w.heap.size
 oN:E.N≤w.heap.size
 o3:w.heap.size≤b3
 nr:NoRow W b3
 G:NdG W w.heap.size sl vs es
theorem JvI.far {E:Pe}{w W W5:World}{b3 at_:Nat}{sl:Value}{vs:List Value}{es:List Ex}{S:Nat→Prop}(f:JvI E w W b3 at_ sl vs es)(c:Chg S W W5)(hS:∀b,S b→b<w.heap.size):JvI E w W5 b3 at_ sl vs es:=by
 have h3:=f.o3
 have ni:¬S b3:=fun e=>by have:=hS _ e;omega
 exact⟨(c.cell (p:=⟨b3,0,none⟩) f.lt3 ni).trans f.c0,(c.cell (p:=⟨b3,1,none⟩) f.lt3 ni).trans f.c1,fun o=>(c.frozen (p:=⟨b3,o,none⟩) f.lt3 ni).trans (f.fz o),Nat.lt_of_lt_of_le f.lt3 c.size,f.o0,f.oN,f.o3,f.nr.chg c f.lt3 ni,f.G.chg c hS⟩
theorem JvI.call {E:Pe}{w W W5:World}{b3 at_:Nat}{sl:Value}{vs:List Value}{es:List Ex}(f:JvI E w W b3 at_ sl vs es)(c:Ch E W W5):JvI E w W5 b3 at_ sl vs es:=f.far c (fun b e=>by have:=f.o0;omega)
theorem JvI.keep {E:Pe}{w W W5:World}{b3 at_:Nat}{sl:Value}{vs:List Value}{es:List Ex}(f:JvI E w W b3 at_ sl vs es)(k:Kept 0 0 W W5):JvI E w W5 b3 at_ sl vs es:=f.far (k.chg (S:=fun _=>False)) (fun _ e=>e.elim)
theorem JvI.own {E:Pe}{w W:World}{b3 at_:Nat}{sl:Value}{vs:List Value}{es:List Ex}(f:JvI E w W b3 at_ sl vs es):¬sl.ownBlock=some b3:=fun e=>by
 rcases f.G.row.2 with⟨h,_⟩|⟨g,cap,cur,h1,_,h2,_⟩
 ·rw[h] at e;cases e
 ·rw[h1] at e
  have e2:g=b3:=by injection e
  rw[e2] at h2
  exact f.nr _ _ h2
theorem JvI.grown {E:Pe}{w W W9:World}{b3 at_:Nat}{sl:Value}{vs:List Value}{es:List Ex}(f:JvI E w W b3 at_ sl vs es)(c:Chg (fun b=>sl.ownBlock=some b) W W9):W9.cell? ⟨b3,1,none⟩=some sl∧W9.frozen? ⟨b3,1,none⟩=false∧b3<W9.heap.size:=
 ⟨(c.cell (p:=⟨b3,1,none⟩) f.lt3 f.own).trans f.c1,(c.frozen (p:=⟨b3,1,none⟩) f.lt3 f.own).trans (f.fz 1),Nat.lt_of_lt_of_le f.lt3 c.size⟩
theorem JvI.push {E:Pe}{w W W2 W9:World}{b3 at_ m g N cap:Nat}{sl:Value}{vs:List Value}{es:List Ex}{v:Value}{e:Ex}(f:JvI E w W b3 at_ sl vs es)(h:Nd W (Fr m) v e)(hl:∀b,sl.ownBlock=some b→b<m)(hnm:w.heap.size≤m)(hW:m≤W.heap.size)(ka:Kept 0 0 W W2)(c:Chg (fun b=>sl.ownBlock=some b) W2 W9)(hN:N=(vs++[v]).length)(hrow:W9.ownsRow 0 167 1 (.slice (some ⟨g,0,none⟩) N cap) N (vs++[v]))(hat:sl.ownBlock=some g∨g=W2.heap.size):JvI E w (W9.setCell ⟨b3,1,none⟩ (.slice (some ⟨g,0,none⟩) N cap)) b3 at_ (.slice (some ⟨g,0,none⟩) N cap) (vs++[v]) (es++[e]):=by
 have f2:=f.keep ka
 have hG:=f.G.more h hl hnm hW ka c hN hrow hat
 have d1:(⟨b3,1,none⟩:Addr)≠⟨b3,0,none⟩:=by simp
 have cs:=chg_setCell (S:=fun b=>b=b3) W9 b3 1 (.slice (some ⟨g,0,none⟩) N cap) rfl
 have h9:b3<W9.heap.size:=Nat.lt_of_lt_of_le f2.lt3 c.size
 have nr9:NoRow W9 b3:=f2.nr.chg c f2.lt3 f2.own
 refine⟨?_,?_,fun o=>?_,Nat.lt_of_lt_of_le h9 cs.size,f.o0,f.oN,f.o3,?_,hG.oth cs (fun b e=>by rw[e];exact nr9)⟩
 ·rw[World.cell?_setCell_other (h:=d1),c.cell (p:=⟨b3,0,none⟩) f2.lt3 f2.own];exact f2.c0
 ·exact World.cell?_setCell_same (h:=(c.cell (p:=⟨b3,1,none⟩) f2.lt3 f2.own).trans f2.c1) ..
 ·rw[World.frozen?_setCell,c.frozen (p:=⟨b3,o,none⟩) f2.lt3 f2.own];exact f2.fz o
 ·exact norow_set nr9
def GJv (w:World)(k:Tok)(us:List Tok)(v:Value)(w':World):Prop:=∃l t1 c x c2 t2 e d,us=k::l::(t1++c::x::c2::t2)∧l.sym=[40]∧Pr 2 [e] t1∧c.sym=[44]∧x.sym=sName∧c2.sym=[44]∧Pr 2 [d] t2∧Nd w' (Fr w.heap.size) v (.jvp k e x d)
abbrev jST (k:Tok):List (List UInt8):=[k.sym,[40],pEXPR,[44],sName,[44],pEXPR]
theorem jvpOpenedS {E:Pe}{n:Nat}(hX:XC E 97 [pEXPR] 2 n){w:World}{k:Tok}{us0:List Tok}(f:Ps E w (k::us0))(hlen:us0.length<n+1)(hk:k.sym∈keysL):Calls Tryz.prog 179 #[.pointer (some ⟨E.P,0,none⟩)] w (Ot E w (k::us0) (jST k) (GJv w k)):=by
 have HX:Hid _:=hX
 have HL:Hid (us0.length<n+1):=hlen
 have HPw:Hid (E.P<w.heap.size∧E.N≤w.heap.size):=f.nw
 have HOp:Hid (Calls Tryz.prog 177 #[.pointer (some ⟨E.P,0,none⟩),.int .i64 1] w (Ot E w (k::us0) [k.sym,[40],pEXPR] (GOp w k 1))):=openedS hX f hlen hk (m:=0) (by omega)
 clear hX f hlen hk
 go_enter Tryz.func179,Tryz.ntmps179
 go_upto_region 2 with (go_at_call 177;refine Calls.mono HOp.out ?_;rintro e w1 (⟨us1,ws1,v1,rfl,hsp1,hw1,hT1,hC1,l,t1,es1,vs1,sl,hu1,hl,hp1,hn1,rfl,hG1⟩|⟨p,rfl,hw1,hC1⟩);rotate_left;exact And.intro rfl (Ot.bad (ts:=k::us0) (st:=jST k) (st2:=jST k) (fun r=>rfl) (ch_refl E w) (fun r=>hw1.out ([[44],sName,[44],pEXPR]++r)) hC1);obtain⟨e1,rfl,hp2⟩:=pr3_one hp1 hn1;have hnv:=hG1.nd.1;obtain⟨v1,rfl⟩:=one_of hnv;obtain⟨gs,cs,rfl⟩:=row_one hG1.row)
 have ka1:=kept_alloc 0 0 w1 (.cells #[.int .i64 (k.pos:Int),.slice (some ⟨gs,0,none⟩) 1 cs] 247)
 have HJ2:Hid (JvI E w (w1.alloc (.cells #[.int .i64 (k.pos:Int),.slice (some ⟨gs,0,none⟩) 1 cs] 247)) w1.heap.size k.pos (.slice (some ⟨gs,0,none⟩) 1 cs) [v1] [e1]):=by
  obtain⟨y1,y2,y3⟩:=box_at w1 _ #[.int .i64 (k.pos:Int),.slice (some ⟨gs,0,none⟩) 1 cs] 247 (Kept.refl 0 0 _).chg (S:=fun _=>False) (fun c=>c)
  exact⟨y1 0,y1 1,y2,y3,HPw.out.1,HPw.out.2,hC1.size,norow_new _ _ _ (by decide),hG1.chg (ka1.chg (S:=fun _=>False)) (fun _ h=>h.elim)⟩
 have HPs2:Hid (Ps E (w1.alloc (.cells #[.int .i64 (k.pos:Int),.slice (some ⟨gs,0,none⟩) 1 cs] 247)) ws1):=hT1.keep ka1
 have HC2:Hid (Ch E w (w1.alloc (.cells #[.int .i64 (k.pos:Int),.slice (some ⟨gs,0,none⟩) 1 cs] 247))):=hC1.andThen ka1.chg
 have HW2:Hid (∀r,wrongM E.t.length (k::us0) (jST k++r)=wrongM E.t.length ws1 ([44]::sName::[44]::pEXPR::r)):=fun r=>hw1.out ([[44],sName,[44],pEXPR]++r)
 have HU1:Hid (us1=k::l::t1∧l.sym=[40]∧Pr 2 [e1] t1):=⟨hu1,hl,hp2⟩
 have HFu:Hid _:=furtherS HPs2.out (kd:=2) (s:=sName) (.inl ⟨rfl,rfl⟩)
 have hgs:gs<w1.heap.size:=hG1.lt gs rfl
 clear hT1 hC1 hG1 hw1 hu1 hl hp1 hp2 hn1 hnv HOp ka1
 generalize w1.alloc (.cells #[.int .i64 (k.pos:Int),.slice (some ⟨gs,0,none⟩) 1 cs] 247)=w2 at*
 generalize w1.heap.size=b3 at*
 go_upto_region 3 with (go_at_call 178;refine Calls.mono HFu.out ?_;rintro e w3 (⟨us3,ws3,v3,rfl,hsp3,hw3,hT3,hC3,c,x,rfl,hc,hx,rfl⟩|⟨p,rfl,hw3,hC3⟩);rotate_left;exact And.intro rfl (Ot.bad (ts:=k::us0) (st:=jST k) (st2:=[[44],sName,[44],pEXPR]) HW2.out HC2.out (fun r=>hw3.out ([[44],pEXPR]++r)) hC3);unfold tkV)
 have ka3:=kept_alloc 0 0 w3 (.cells #[.int .i64 (cvT x).kind,strL (cvT x).text,.int .i64 ((cvT x).at_:Int)] 106)
 have HJ3:Hid (JvI E w (w3.alloc (.cells #[.int .i64 (cvT x).kind,strL (cvT x).text,.int .i64 ((cvT x).at_:Int)] 106)) b3 k.pos (.slice (some ⟨gs,0,none⟩) 1 cs) [v1] [e1]):=(HJ2.out.call hC3).keep ka3
 have HPs3:Hid (Ps E (w3.alloc (.cells #[.int .i64 (cvT x).kind,strL (cvT x).text,.int .i64 ((cvT x).at_:Int)] 106)) ws3):=hT3.keep ka3
 have HC3:Hid (Ch E w (w3.alloc (.cells #[.int .i64 (cvT x).kind,strL (cvT x).text,.int .i64 ((cvT x).at_:Int)] 106))):=(HC2.out.andThen hC3).andThen ka3.chg
 have HTb:Hid (∀S w5,Chg S (w3.alloc (.cells #[.int .i64 (cvT x).kind,strL (cvT x).text,.int .i64 ((cvT x).at_:Int)] 106)) w5→¬S w3.heap.size→_):=fun S w5 cc hn=>box_at w3 w5 #[.int .i64 (cvT x).kind,strL (cvT x).text,.int .i64 ((cvT x).at_:Int)] 106 cc hn
 have HTn:Hid (NoRow (w3.alloc (.cells #[.int .i64 (cvT x).kind,strL (cvT x).text,.int .i64 ((cvT x).at_:Int)] 106)) w3.heap.size):=norow_new _ _ _ (by decide)
 have HSz:Hid (w.heap.size≤w3.heap.size∧b3<w3.heap.size):=⟨(HC2.out.andThen hC3).size,Nat.lt_of_lt_of_le HJ2.out.lt3 hC3.size⟩
 have HW3:Hid (∀r,wrongM E.t.length (k::us0) (jST k++r)=wrongM E.t.length ws3 ([44]::pEXPR::r)):=fun r=>(HW2.out r).trans (hw3.out ([[44],pEXPR]++r))
 have HU3:Hid (c.sym=[44]∧x.sym=sName):=⟨hc,hx⟩
 have HM:Hid _:=takeMarkS HPs3.out (s:=[44]) (by decide)
 clear hT3 hC3 hw3 hc hx ka3 HFu HJ2 HPs2 HC2 HW2
 generalize w3.alloc (.cells #[.int .i64 (cvT x).kind,strL (cvT x).text,.int .i64 ((cvT x).at_:Int)] 106)=w4 at*
 generalize w3.heap.size=bt at*
 go_upto_region 4 with (go_at_call 99;refine Calls.mono HM.out ?_;rintro e w7 (⟨us4,ws4,v4,rfl,hsp4,hw4,hT4,hC4,c2,rfl,hc2,rfl⟩|⟨p,rfl,hw4,hC4⟩);rotate_left;exact And.intro rfl (Ot.bad (ts:=k::us0) (st:=jST k) (st2:=[[44],pEXPR]) HW3.out HC3.out (fun r=>hw4.out ([pEXPR]++r)) hC4))
 have HJ4:Hid (JvI E w w7 b3 k.pos (.slice (some ⟨gs,0,none⟩) 1 cs) [v1] [e1]):=HJ3.out.call hC4
 have HPs4:Hid (Ps E w7 ws4):=hT4
 have HC4:Hid (Ch E w w7):=HC3.out.andThen hC4
 have HC4b:Hid (Ch E w4 w7):=hC4
 have HW4:Hid (∀r,wrongM E.t.length (k::us0) (jST k++r)=wrongM E.t.length ws4 ([pEXPR]++r)):=fun r=>(HW3.out r).trans (hw4.out ([pEXPR]++r))
 have HL4:Hid (ws4.length<n):=by
  have h1:=HL.out
  have h2:=congrArg List.length hsp1.out
  rw[HU1.out.1,hsp3.out,hsp4.out] at h2
  simp at h2
  show _<_
  omega
 have HU4:Hid (c2.sym=[44]):=hc2
 have s1:=HJ4.out.c1
 have s2:=HJ4.out.fz 1
 have s3:=HJ4.out.lt3
 have hgl:gs<w7.heap.size:=HJ4.out.G.lt gs rfl
 obtain⟨i0,hi0,hz0,hz1,hz2⟩:=infoNd_parts
 clear hT4 hC4 hw4 hc2 HM HJ3 HPs3 HW3
 go_cut [] (fun wx=>∃(us5 ws5:List Tok) (d5:Ex) (g cap:Nat) (v:Value),Hid (ws4=us5++ws5)∧Hid (∀r,wrongM E.t.length ws4 (pEXPR::r)=wrongM E.t.length ws5 r)∧Hid (Pr 2 [d5] us5)∧Hid (JvI E w wx b3 k.pos (.slice (some ⟨g,0,none⟩) 2 cap) [v1,v] [e1,d5])∧Hid (Ps E wx ws5)∧Hid (Ch E w wx)∧Hid ((∀o,wx.cell? ⟨bt,o,none⟩=(#[.int .i64 (cvT x).kind,strL (cvT x).text,.int .i64 ((cvT x).at_:Int)]:Array Value)[o]?)∧bt<wx.heap.size))
 case first=>
  go_region_law (first
   |((fail_if_success (exfalso;refine absurd hC5.size ?_));go_simp;go_wp2_with (first|(go_at_call 97;refine Calls.mono (HX.out _ ws4 (HPs4.out.keep (kept_drew _)) HL4.out) ?_;rintro e w5 (⟨us5,ws5,v5,rfl,hsp5,hw5,hT5,hC5,d5,hPr5,hNd5⟩|⟨p,rfl,hw5,hC5⟩);rotate_left;exact And.intro rfl (Ot.bad (ts:=k::us0) (st:=jST k) (st2:=[pEXPR]) HW4.out (HC4.out.andThen (kept_drew _).chg) (fun r=>hw5.out r) hC5);obtain⟨T5,x5,rfl⟩:=hNd5.iface;have hn5:=cell_new1 w5 (.iface T5 x5) 167;have HO5:Hid _:=(HJ4.out.keep (kept_drew _)).call hC5;have c15:=HO5.out.c1;have c15a:=(HO5.out.keep (kept_alloc 0 0 w5 (.cells #[.iface T5 x5] 167))).c1;have hb5:=HO5.out.lt3)|fail))
   |((first|rw[if_pos (by simp[Region.wanted])]|fail "rw");(first|refine wp_append_lies (w5.alloc (.cells #[.iface T5 x5] 167)) (.tmp 12) (.tmp 15) 245 rfl 0 167 i0 .nilIface 1 16 Tryz.underlying245 hi0 hz0 hz1 hz2 rfl (by decide) (.slice (some ⟨gs,0,none⟩) 1 cs) 1 [v1] ?_ (HO5.out.keep (kept_alloc 0 0 w5 (.cells #[.iface T5 x5] 167))).G.row ⟨w5.heap.size,0,none⟩ 1 1 [.iface T5 x5] ?_ rfl (cell_one_new _ _ _) ?_ (by decide) ?_ ?_ ?_ _ rfl ?_|fail "refine");(focus first|rfl|simp[Act.eval]|fail "e1");(focus first|rfl|simp[Act.eval]|fail "e2");(focus first|(intro u hu;cases hu with|head=>rfl|tail _ h=>cases h)|fail "e3");(focus first|exact Nat.le_trans (show 1+1≤5000 by omega) (by decide)|fail "e4");(focus first|exact(show(1+1)*16≤140737488355328 by omega)|fail "e5");(focus first|exact Nat.zero_le _|fail "e6");(first|intro g9 cap9 w9 hown9 hg9 hat9 hlt9|fail "intro");(first|obtain⟨m3,mf3,ms3⟩:=(HO5.out.keep (kept_alloc 0 0 w5 (.cells #[.iface T5 x5] 167))).grown (chg_grow hg9)|fail "obtain")))
  all_goals
   have ka:=kept_alloc 0 0 w5 (.cells #[.iface T5 x5] 167)
   have cs9:=chg_setCell (S:=fun b=>b=b3) w9 b3 1 (.slice (some ⟨g9,0,none⟩) 2 cap9) rfl
   have HJ9:Hid _:=HO5.out.push (v:=.iface T5 x5) hNd5 (fun b e=>by cases e;exact hgl) HC4.out.size hC5.size ka (chg_grow hg9) rfl hown9 (hat9.imp id (fun e=>e.trans (by simp)))
   have hfr:=HO5.out.G.fr
   have HP9:Hid _:=((hT5.keep ka).far (chg_grow hg9) (fun b e=>by have:=hfr b e;have:=HPw.out.2;omega)).far cs9 (fun b e=>by have:=HJ4.out.o3;have:=HPw.out.2;omega)
   have HC9:Hid (Ch E w _):=((((HC4.out.andThen (kept_drew _).chg).andThen hC5).andThen ka.chg).new (chg_grow hg9) (fun b h e=>by have:=hfr b e;omega)).new cs9 (fun b h e=>by have:=HJ4.out.o3;omega)
   have HPr5:Hid (Pr 2 [d5] us5):=hPr5
   have hS:Chg (fun b=>b=E.P∨b=gs∨b=b3) w4 _:=((((HC4b.out.andThen (kept_drew _).chg).andThen hC5).andThen ka.chg).mono (fun b _ e=>.inl e)).andThen (((chg_grow hg9).mono (fun b _ e=>.inr (.inl (by injection e with e;exact e.symm)))).andThen (cs9.mono (fun b _ e=>.inr (.inr e))))
   have hT9:=HTb.out _ _ hS (by
    have h1:=HSz.out
    have h2:=HPw.out
    rintro (h|h|h)<;>omega)
   have HT9:Hid _:=And.intro hT9.1 hT9.2.2
   clear hown9 hg9 hat9 hlt9 m3 mf3 ms3 ka hNd5 hC5 hT5 HO5 c15 c15a hb5 hn5 hPr5 hfr cs9 hS hT9
   go_wp2_with fail
   go_meet
   exact⟨us5,ws5,d5,g9,cap9,.iface T5 x5,hsp5,fun r=>hw5.out r,HPr5,HJ9,HP9,HC9,HT9⟩
 case rest=>
  obtain⟨us5,ws5,d5,g5,cap5,v5,hsp5,hw5,hPr5,HJ5,HPs5,HC5,HT5⟩:=hcut
  have a0:=HJ5.out.c0
  have a1:=HJ5.out.c1
  have b0:=HT5.out.1 0
  have b1:=HT5.out.1 1
  have b2:=HT5.out.1 2
  simp only[List.getElem?_toArray,List.getElem?_cons_zero,List.getElem?_cons_succ] at b0 b1 b2
  clear s1 s2 s3 HJ4 HPs4 HC4 HC4b
  go_wp2
  go_ret
  have hG:=HJ5.out.G
  exact .inl ⟨k::l::(t1++c::x::c2::us5),ws5,_,rfl,by show _=_;rw[hsp1.out,HU1.out.1,hsp3.out,hsp4.out,hsp5.out];simp,fun r=>(HW4.out r).trans (hw5.out r),HPs5.out,HC5.out,l,t1,c,x,c2,us5,e1,d5,rfl,HU1.out.2.1,HU1.out.2.2,HU3.out.1,HU3.out.2,HU4.out,hPr5.out,.jvp hG.rw (hG.ndl.2 0 _ _ rfl rfl) (hG.ndl.2 1 _ _ rfl rfl)⟩
end Go.Proofs.YtgamjhpebmmjcaaGreatDoor
