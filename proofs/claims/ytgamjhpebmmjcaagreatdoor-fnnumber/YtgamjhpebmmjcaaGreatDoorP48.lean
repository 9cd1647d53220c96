import Derived.Test.YtgamjhpebmmjcaaGreatDoorP47
import Derived.Deep.RegionLaw
namespace Go.Proofs.YtgamjhpebmmjcaaGreatDoor
set_option maxRecDepth 100000
set_option maxHeartbeats 40000000
open Go.RowKit Flt
attribute [local go_sem] alloc_drewN setCell_drewN run_store_float fld0 fld1 fld2 mkF
def Esm1 (E E':Tqe):Prop:=E'.P=E.P∧E'.T=E.T∧E'.V=E.V∧E'.F=E.F∧E'.N=E.N∧E'.u1=E.u1
def StX1 (E:Tqe)(ρ:Nat→Nat)(w:World)(r:Rs LSt)(e:Ending)(w':World):Prop:=
 (∃st' ρ' E',Esm1 E E'∧r=.ok st'∧e=.returned (.tuple #[])∧Tq E' ρ' w' st' [] []∧Sco ρ w ρ' w')∨(∃c p,r=.error (c,p)∧e=Thr c (p:Nat)∧Chg (fun b=>ρ b≠0) w w')
theorem outS_of {E:Tqe}{ρ:Nat→Nat}{w:World}{st:LSt}(h:Tq E ρ w st [] [])(ho:st.outs.length≤50){n:Tok}(hs:n.sym≠[]){T0:TypeId}{y0:Value}{r:Rs (LSt×Nat)}(htr:∀W,Kept 0 0 w W→Calls Tryz.prog 210 #[.pointer (some ⟨E.T,0,none⟩),.iface T0 y0] W (TcO E ρ W r))(hnm:∀st' a,r=.ok (st',a)→st'.outs=st.outs):
  Calls Tryz.prog 209 #[.agg #[.int .i64 (cvT n).kind,strL (cvT n).text,.int .i64 ((cvT n).at_:Int),.iface T0 y0],.pointer (some ⟨E.T,0,none⟩)] w (StX1 E ρ w (if 50≤st.outs.length then .error (5,n.pos) else outR r)):=by
 have HR0:Hid (ρ w.heap.size=0):=by
  obtain⟨_,_,_,_,_,_,hT⟩:=h
  exact hT.rN _ (Nat.le_refl _)
 have HT:Hid (∀W,Kept 0 0 w W→Calls Tryz.prog 210 #[.pointer (some ⟨E.T,0,none⟩),.iface T0 y0] W (TcO E ρ W r)):=htr
 have HNm:Hid _:=hnm
 rw[cv_tok hs]
 obtain⟨ts,tp,tt⟩:=n
 simp only
 generalize kindM tt=kd at*
 have ka:=kept_alloc 0 0 w (.cells #[.int .i64 kd,strL tt,.int .i64 (tp:Int),.iface T0 y0] 170)
 obtain⟨b1,_,b3⟩:=box_at w _ #[.int .i64 kd,strL tt,.int .i64 (tp:Int),.iface T0 y0] 170 (Kept.refl 0 0 _).chg (S:=fun _=>False) (fun c=>c)
 obtain⟨vv,tv,xv,hB,hT⟩:=(h.keep ka).open'
 obtain⟨aO,cO,hO⟩:∃aO cO,E.u3=.slice aO st.outs.length cO:=by
  rcases hB.o.2 with⟨e1,e2⟩|⟨g,cap,cur,e1,_⟩
  ·exact⟨none,0,by rw[e1,e2]⟩
  ·exact⟨_,cap,e1⟩
 have t0:=hT.t0
 have p2:=hB.b.c2
 rw[hO] at p2
 have n2:(w.alloc (.cells #[.int .i64 kd,strL tt,.int .i64 (tp:Int),.iface T0 y0] 170)).cell? ⟨w.heap.size,2,none⟩=some (.int .i64 (tp:Int)):=b1 2
 have n3:(w.alloc (.cells #[.int .i64 kd,strL tt,.int .i64 (tp:Int),.iface T0 y0] 170)).cell? ⟨w.heap.size,3,none⟩=some (.iface T0 y0):=b1 3
 have n4:w.heap.size<(w.alloc (.cells #[.int .i64 kd,strL tt,.int .i64 (tp:Int),.iface T0 y0] 170)).heap.size:=b3
 have HK:Hid _:=ka
 have HO:Hid (E.u3=.slice aO st.outs.length cO):=hO
 obtain⟨i0,hi,hz0,hz1,hz2⟩:=info_parts infoI
 clear h htr hnm hs b1 b3 ka hB hT hO
 by_cases c:50≤st.outs.length
 ·have hl50:st.outs.length=50:=by omega
  rw[if_pos c]
  rw[hl50] at p2
  go_enter Tryz.func209,Tryz.ntmps209
  go_wp2_with (go_at_call 60;refine Calls.mono (stopS _ _ _) ?_;rintro e w3 ⟨rfl,hw⟩;obtain rfl:=hw.symm)
  exact⟨rfl,.inr ⟨5,tp,rfl,rfl,HK.out.chg⟩⟩
 ·rw[if_neg c]
  have c5:((st.outs.length:Int)==50)=false:=beq_eq_false_iff_ne.2 (by omega)
  have HL50:Hid (st.outs.length<50):=by show _<_;omega
  clear c ho
  go_enter Tryz.func209,Tryz.ntmps209
  go_upto_region 3 with fail
  change Code.wp _ _ _ _ (w.alloc (.cells #[.int .i64 kd,strL tt,.int .i64 (tp:Int),.iface T0 y0] 170))
  generalize (w.alloc (.cells #[.int .i64 kd,strL tt,.int .i64 (tp:Int),.iface T0 y0] 170))=w1 at*
  generalize w.heap.size=bx at HR0 n2 n3 n4 ⊢
  have HL:Hid (∀{W:World} {ρ5:Nat→Nat} {st5:LSt} {vv5 tv5 xv5:Value},TqB E ρ5 W st5.ins st5.vs st5.outs E.u1 E.u3 vv5→TqT E ρ5 W st5.names st5.calls [] [] tv5 xv5→((Value.slice aO st.outs.length cO).ownBlock≠some E.T∧E.T<W.heap.size∧W.cell? ⟨E.T,0,none⟩=some (.pointer (some ⟨E.P,0,none⟩)))∧((Value.slice aO st.outs.length cO).ownBlock≠some E.P∧E.P<W.heap.size∧W.cell? ⟨E.P,2,none⟩=some (.slice aO st.outs.length cO)∧W.frozen? ⟨E.P,2,none⟩=false)):=fun {W ρ5 st5 vv5 tv5 xv5} hB hT=>by
   have e:=HO.out
   have ho:=hB.ro
   have c2:=hB.b.c2
   rw[e] at ho c2
   exact⟨⟨fun q=>by have:=ho _ q;have:=hT.rT;omega,hT.lt,hT.t0⟩,fun q=>by have:=ho _ q;have:=hB.rP;omega,hB.b.lt,c2,hB.b.free 2⟩
  go_region_law (first
   |((fail_if_success (exfalso;refine absurd hZ5.size ?_));go_simp;go_wp2_with (first|(go_at_call 210;refine Calls.mono (HT.out _ (HK.out.trans (by first|exact Kept.refl 0 0 _|exact(Kept.refl 0 0 _).drew))) ?_;rintro e w5 (⟨st5,a5,ρ5,e5,rfl,q5,s5⟩|⟨c,q,e5,rfl,c5⟩);rotate_left;exact And.intro rfl (.inr ⟨c,q,by rw[e5];rfl,rfl,(Sco.kept (HK.out.trans (by first|exact Kept.refl 0 0 _|exact(Kept.refl 0 0 _).drew))).bad c5⟩);have hZ5:=s5.chg;obtain⟨vv5,tv5,xv5,hB5,hT5⟩:=q5.open';have HS5:Hid (Sco ρ w ρ5 w5):=(Sco.kept (HK.out.trans (by first|exact Kept.refl 0 0 _|exact(Kept.refl 0 0 _).drew))).trans s5;obtain⟨⟨g1,g2,g3⟩,g4,g5,g6,g7⟩:=HL.out hB5 hT5;have g3a:=kcell (kept_alloc 0 0 w5 (.cells #[.int .i64 (a5:Int)] 3)) g2 g3;have g6a:=kcell (kept_alloc 0 0 w5 (.cells #[.int .i64 (a5:Int)] 3)) g5 g6;have H5:Hid _:=And.intro e5 (And.intro hB5 hT5);have HG:Hid _:=And.intro (And.intro g1 (And.intro g2 g3)) (And.intro g4 (And.intro g5 (And.intro g6 g7)));have HOw:Hid (w5.ownsRow E.N 3 1 (.slice aO st.outs.length cO) st.outs.length (intsI st.outs)):=(by have:=hB5.o;rw[HO.out,HNm.out st5 a5 e5] at this;exact this);clear g1 g4 g7 e5 q5 s5 hB5 hT5)|fail))
   |((first|rw[if_pos (by simp[Region.wanted])]|fail "rw");(first|refine wp_append_lies (w5.alloc (.cells #[.int .i64 (a5:Int)] 3)) (.tmp 29) (.tmp 34) 32 rfl E.N 3 i0 (.int .i64 0) 1 8 Tryz.underlying32 hi hz0 hz1 hz2 rfl (by decide) (.slice aO st.outs.length cO) st.outs.length (intsI st.outs) ?_ (own_keepJ HOw.out (kept_alloc 0 0 w5 (.cells #[.int .i64 (a5:Int)] 3))) ⟨w5.heap.size,0,none⟩ 1 1 [.int .i64 (a5:Int)] ?_ rfl (cell_one_new _ _ _) ?_ (by decide) ?_ ?_ ?_ _ rfl ?_|fail "refine");(focus first|rfl|simp[Act.eval]|fail "e1");(focus first|rfl|simp[Act.eval]|fail "e2");(focus first|(intro u hu;cases hu with|head=>rfl|tail _ h=>cases h)|fail "e3");(focus first|(have:=HL50.out;unfold maxLen;omega)|fail "e4");(focus first|(have:=HL50.out;omega)|fail "e5");(focus first|exact Nat.le_trans H5.out.2.2.sz (kept_alloc 0 0 w5 _).size|fail "e6");(first|intro g9 cap9 w9 hown9 hg9 hat9 hlt9|fail "intro");(first|have m0:=far_C HG.out.1.2.2 HG.out.1.2.1 HG.out.1.1 hg9|fail "m0");(first|have m2:=far_C HG.out.2.2.2.1 HG.out.2.2.1 HG.out.2.1 hg9|fail "m2");(first|have m3:=far_Z HG.out.2.2.2.2 HG.out.2.2.1 HG.out.2.1 hg9|fail "m3")))
  all_goals
   obtain⟨e5,hB5,hT5⟩:=H5.out
   have ka:=kept_alloc 0 0 w5 (.cells #[.int .i64 (a5:Int)] 3)
   have ho5:=HNm.out st5 a5 e5
   obtain⟨ρ9,f1,f2⟩:=Tq.outs (st:=st5) (a:=a5) (n:=st.outs.length+1) (hB5.chg (ka.chg (S:=fun _=>False)) (fun _ _ q=>q.elim) (fun _ _=>rfl)) (hT5.chg (ka.chg (S:=fun _=>False)) (fun _ _ q=>q.elim) (fun _ _=>rfl) (fun b hb=>hT5.rN b (Nat.le_trans ka.size hb))) (by rw[HO.out];exact chg_grow hg9) (by rw[HO.out];exact hat9) hlt9 (by rw[ho5,List.length_append];rfl) (by rw[ho5];unfold intsI at hown9 ⊢;rw[List.map_append];exact hown9)
   have HF9:Hid _:=And.intro e5 (And.intro f1 (HS5.out.trans ((Sco.kept ka).trans f2)))
   clear f1 f2 ka hown9 hg9 hat9 hlt9 e5 hB5 hT5 ho5
   go_wp2
   go_end0
   refine .inl ⟨_,ρ9,_,?_,?_,rfl,HF9.out.2.1,HF9.out.2.2⟩
   ·exact⟨rfl,rfl,rfl,rfl,rfl,rfl⟩
   ·rw[HF9.out.1]
    rfl
end Go.Proofs.YtgamjhpebmmjcaaGreatDoor
