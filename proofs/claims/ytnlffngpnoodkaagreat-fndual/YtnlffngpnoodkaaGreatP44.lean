import Derived.Test.YtnlffngpnoodkaaGreatP43
namespace Go.Proofs.YtnlffngpnoodkaaGreat
set_option maxRecDepth 1000000
set_option maxHeartbeats 0
section
open Go.RowKit Flt
attribute [local go_sem] ic ib ia
def rg (T:List Int×List Vl×List Int×Nat)(s x:Int):Prop:=0<=s/\s<T.2.1.length/\s<50/\(T.2.1.getD s.toNat Vl.zero).len=1/\0<=x/\x<T.2.1.length
theorem zC {w:World}{a am:Option Addr}{n cap nm cm:Nat}{xs:List Int}{ys:List Int}(hy:YS w am nm ys)(hnm:nm<=1048576)(h:YS w a n xs)(hc:n<=cap)(hf:ty (gdT (xs.take 500)))(hf2:¬rg (gdT (xs.take 500)) (gdS (xs.take 500)) (gdX (xs.take 500))):
  Calls Tryz.prog 4 #[.slice a n cap,.slice am nm cm] w (DuN w (gdS (xs.take 500)) (gdX (xs.take 500))):=by
 have ka:=hU 0 0 w iw
 have h1:(w.alloc iw).heap.size=w.heap.size+1:=by simp
 have HD:Hid _:=qJ (h.keep ka) hc
 have HB:Hid _:=i9 w
 have HK:Hid _:=ka
 have HF:Hid _:=hf
 have HF2:Hid _:=hf2
 have HY:Hid _:=hy.keep ka
 have HK0:Hid (Kept 0 0 (w.alloc iw) (w.alloc iw)):=Kept.refl _ _ _
 generalize gdT (xs.take 500)=T at HD HF HF2 ⊢
 generalize gdS (xs.take 500)=s at HD HF2 ⊢
 generalize gdX (xs.take 500)=x at HD HF2 ⊢
 obtain⟨ins,vs0,outs,N0⟩:=T
 clear h hc ka hf hf2 hy
 go_enter Tryz.func4,Tryz.ntmps4
 go_wp2_with fail
 refine Calls.mono HD.out ?_
 rintro e W1 ⟨a1,c1,a2,c2,a3,c3,vs,rfl,hsv,d,k1⟩
 have hsv:vs.map sv=vs0:=hsv
 have hl:vs.length=vs0.length:=by rw[<-hsv,List.length_map]
 have hok:okG ins vs outs=okG ins vs0 outs:=qK (by rw[<-hsv,qM])
 have hce:ig vs=ig vs0:=by rw[<-hsv,nW]
 have hN:Hid ((okG ins vs outs=true/\vs.length<=60/\0<vs.length/\ins.length<20/\ig vs<=600)):=by
  show _/\_
  rw[hok,hl,hce]
  exact HF.out
 have hg0:∀j,(vs.getD j Vl.zero).len=(vs0.getD j Vl.zero).len:=λj=>by
  have:=congrArg Vl.len (nw (us:=vs) (vs:=vs0) (by rw[<-hsv,qM]) j)
  exact this
 have hF2:=HF2.out
 unfold rg at hF2
 simp only[<-hl,<-hg0] at hF2
 clear HF HF2 hl hok hce hg0 HD
 simp only at d hN
 have hi:ins.length<=9223372036854775807/\vs.length<=9223372036854775807:=⟨lL d.r1 rfl,lL d.r2 rfl⟩
 generalize hn1:ins.length=n1 at d hN hi ⊢
 generalize hn2:vs.length=n2 at d hN hi hF2 ⊢
 generalize hn3:outs.length=n3 at d ⊢
 have ko:=hU 0 0 W1 (iv a1 n1 c1 a2 n2 c2 a3 n3 c3)
 have hb:=kj (S:=λ_=>False) W1 _ #[.slice a1 n1 c1,.slice a2 n2 c2,.slice a3 n3 c3] 26 (Kept.refl 0 0 _).chg (λc=>c)
 have HBx:Hid (RB (W1.alloc (iv a1 n1 c1 a2 n2 c2 a3 n3 c3)) W1.heap.size (.slice a1 n1 c1) (.slice a2 n2 c2) (.slice a3 n3 c3)):=⟨hb.2.2,hb.1 0,hb.1 1,hb.1 2,hb.2.1 0,hb.2.1 1,hb.2.1 2⟩
 have HKK:Hid (Kept 0 0 w (W1.alloc (iv a1 n1 c1 a2 n2 c2 a3 n3 c3))):=HK.out.trans (k1.trans ko)
 have HBr:Hid _:=HB.out.keep (k1.trans ko)
 have HKA:Hid (Kept 0 0 (w.alloc iw) (W1.alloc (iv a1 n1 c1 a2 n2 c2 a3 n3 c3))):=k1.trans ko
 have hfar:Hid (∀b,(Value.slice a1 n1 c1).ownBlock=some b\/(Value.slice a2 n2 c2).ownBlock=some b\/(Value.slice a3 n3 c3).ownBlock=some b->w.heap.size<b/\b<W1.heap.size):=by
  rintro b (c|c|c)
  ·have:=ii d.r1 c;omega
  ·have:=ii d.r2 c;omega
  ·have:=ii d.r3 c;omega
 have HDG:Hid _:=d.kept ko (Nat.zero_le _)
 have HV:Hid _:=kN _ a1 a2 a3 n1 c1 n2 c2 n3 c3 ins vs outs (HDG.out.gs hn1 hn2 hn3)
 have hlt:w.heap.size<W1.heap.size:=by have:=k1.size;omega
 clear hb ko k1 d HK HB HK0
 go_wp2_with fail
 generalize W1.alloc (iv a1 n1 c1 a2 n2 c2 a3 n3 c3)=W2 at HBx HKK HBr HDG HV HKA ⊢
 generalize W1.heap.size=Q at HBx hlt hfar ⊢
 refine Calls.mono HV.out ?_
 rintro e W3 ⟨rfl,k3⟩
 have HBx3:Hid _:=HBx.out.keep k3
 have HBr3:Hid _:=HBr.out.keep k3
 have HDG3:Hid _:=HDG.out.kept k3 (Nat.zero_le _)
 have HK3:Hid _:=HKK.out.trans k3
 have HA3:Hid _:=HKA.out.trans k3
 clear k3 HBx HBr HDG HKK HV HKA
 obtain⟨_,q0,q1,q2,_,_,_⟩:=HBx3.out
 obtain⟨hr,r0,r1,r2,rf0,rf1,rf2⟩:=HBr3.out
 have hQ2:¬w.heap.size=Q:=by omega
 have hQ3:¬Q=w.heap.size:=by omega
 obtain⟨hi1,hi2⟩:=hi
 obtain⟨ho,c60,c0,c20,hcl⟩:=hN.out
 have hV:∀j,j<n2->okV ins vs j=true:=λj hj=>by
  have ho:=ho
  unfold okG at ho
  simp only[Bool.and_eq_true] at ho
  exact List.all_eq_true.1 ho.2.2.1 j (List.mem_range.2 (by rw[hn2];exact hj))
 have r2':=HDG3.out.r2
 rw[hn2] at r2'
 have HL:Hid _:=lS (a1:=a1) (n1:=n1) (c1:=c1) (a3:=a3) (n3:=n3) (c3:=c3) r2' hn2 (by omega) λj hj=>ja (hV j hj)
 have c0':¬n2=0:=by omega
 have HO:Hid _:=ho
 rw[ho]
 clear r2' hN ho
 generalize ig vs=z at hcl HL
 have b6:decide (600<z)=false:=decide_eq_false (by omega)
 have b60:decide (60<(n2:Int))=false:=decide_eq_false (by omega)
 have bz:((n2:Int)==0)=false:=by simpa using c0'
 have b20:decide (20<=(n1:Int))=false:=decide_eq_false (by omega)
 go_wp2_with fail
 refine Calls.mono HL.out ?_
 rintro e W4 ⟨rfl,k4⟩
 have HK4:Hid _:=HK3.out.trans k4
 have HA4:Hid _:=HA3.out.trans k4
 have HDG4:Hid _:=HDG3.out.kept k4 (Nat.zero_le _)
 have HBx4:Hid _:=HBx3.out.keep k4
 have HBr4:Hid _:=HBr3.out.keep k4
 clear q0 q1 q2 hr r0 r1 r2 rf0 rf1 rf2 HL HK3 HA3 HDG3 HBx3 HBr3 k4
 obtain⟨_,q0,q1,q2,_,_,_⟩:=HBx4.out
 have HW:Hid _:=we (cm:=cm) HA4.out HY.out hnm HDG4.out hn2.symm (by omega)
 go_wp2_with fail
 refine Calls.mono HW.out ?_
 rintro e W5 ⟨rfl,d5,k5,ch5⟩
 have nQ:¬(Value.slice a2 n2 c2).ownBlock=some Q:=λc=>by have:=(hfar.out Q (.inr (.inl c))).2;omega
 have nR:¬(Value.slice a2 n2 c2).ownBlock=some w.heap.size:=λc=>by have:=(hfar.out _ (.inr (.inl c))).1;omega
 have HBx5:Hid _:=jC HBx4.out ch5 nQ
 have HBr5:Hid _:=jC HBr4.out ch5 nR
 have HDG5:Hid _:=d5
 have HA5:Hid _:=k5
 clear q0 q1 q2 nQ nR d5 k5 ch5 HW HK4 HA4 HDG4 HBx4 HBr4
 obtain⟨_,q0,q1,q2,qf0,qf1,qf2⟩:=HBx5.out
 obtain⟨hr,r0,r1,r2,rf0,rf1,rf2⟩:=HBr5.out
 have HK6:Hid (Kept 0 0 w (((W5.setCell ⟨Q,0,none⟩ (.slice a1 n1 c1)).setCell ⟨Q,1,none⟩ (.slice a2 n2 c2)).setCell ⟨Q,2,none⟩ (.slice a3 n3 c3))):=kB ((hU 0 0 w iw).trans HA5.out) (by omega) _ _ _
 have cQ:Chg (λb=>b=Q) W5 (((W5.setCell ⟨Q,0,none⟩ (.slice a1 n1 c1)).setCell ⟨Q,1,none⟩ (.slice a2 n2 c2)).setCell ⟨Q,2,none⟩ (.slice a3 n3 c3)):=((iH (S:=λb=>b=Q) W5 Q 0 _ rfl).andThen (iH (S:=λb=>b=Q) _ Q 1 _ rfl)).andThen (iH (S:=λb=>b=Q) _ Q 2 _ rfl)
 obtain⟨_,t0,t1,t2,tf0,tf1,tf2⟩:=jC HBr5.out cQ hQ2
 by_cases c1':s<0
 ·have u1:decide (s<0)=true:=decide_eq_true c1'
  go_wp2_with fail
  obtain⟨p0,p1,p2⟩:=iy _ w.heap.size _ _ _ t0 t1 t2 (.slice a1 n1 c1) (.slice a2 n2 c2) (.slice a3 n3 c3)
  exact bodyPost_ret (v:=.tuple #[ip a1 n1 c1 a2 n2 c2 a3 n3 c3,.int .i64 s,.int .i64 x,.bool false]) (by simp[results,Tryz.results4,go_sem,p0,p1,p2]) rfl ⟨_,_,_,_,_,_,_,_,_,rfl,kB HK6.out (Nat.le_refl _) _ _ _⟩
 obtain⟨S,rfl⟩:∃S:Nat,s=S:=⟨s.toNat,by omega⟩
 have u1:decide ((S:Int)<0)=false:=decide_eq_false (by omega)
 by_cases c2':n2<=S
 ·have u2:decide ((n2:Int)<=S)=true:=decide_eq_true (by omega)
  go_wp2_with fail
  obtain⟨p0,p1,p2⟩:=iy _ w.heap.size _ _ _ t0 t1 t2 (.slice a1 n1 c1) (.slice a2 n2 c2) (.slice a3 n3 c3)
  exact bodyPost_ret (v:=.tuple #[ip a1 n1 c1 a2 n2 c2 a3 n3 c3,.int .i64 (S:Int),.int .i64 x,.bool false]) (by simp[results,Tryz.results4,go_sem,p0,p1,p2]) rfl ⟨_,_,_,_,_,_,_,_,_,rfl,kB HK6.out (Nat.le_refl _) _ _ _⟩
 have u2:decide ((n2:Int)<=S)=false:=decide_eq_false (by omega)
 by_cases c3':50<=S
 ·have u3:decide (50<=(S:Int))=true:=decide_eq_true (by omega)
  go_wp2_with fail
  obtain⟨p0,p1,p2⟩:=iy _ w.heap.size _ _ _ t0 t1 t2 (.slice a1 n1 c1) (.slice a2 n2 c2) (.slice a3 n3 c3)
  exact bodyPost_ret (v:=.tuple #[ip a1 n1 c1 a2 n2 c2 a3 n3 c3,.int .i64 (S:Int),.int .i64 x,.bool false]) (by simp[results,Tryz.results4,go_sem,p0,p1,p2]) rfl ⟨_,_,_,_,_,_,_,_,_,rfl,kB HK6.out (Nat.le_refl _) _ _ _⟩
 have u3:decide (50<=(S:Int))=false:=decide_eq_false (by omega)
 have r25:=HDG5.out.r2
 rw[jp,hn2] at r25
 obtain⟨g,cp,eu,_,hg2,hat⟩:=iY r25 ((jp _ _ _).trans hn2) (k:=S) (by omega)
 cases eu
 have y1:=hat.c1
 rw[oT _ _ _ (by omega)] at y1
 have hgQ:¬g=Q:=λc=>by have:=(hfar.out g (.inr (.inl rfl))).2;omega
 have hgQ':¬Q=g:=λc=>hgQ c.symm
 clear r25 hat
 have hF3:¬((vs.getD S Vl.zero).len=1/\0<=x/\x<(n2:Int)):=λc=>hF2 ⟨by omega,by omega,by omega,c.1,c.2.1,c.2.2⟩
 generalize (vs.getD S Vl.zero).len=l1 at y1 hF3
 by_cases c4':l1=1
 ·subst c4'
  by_cases c5':x<0
  ·have u5:decide (x<0)=true:=decide_eq_true c5'
   go_wp2_with fail
   obtain⟨p0,p1,p2⟩:=iy _ w.heap.size _ _ _ t0 t1 t2 (.slice a1 n1 c1) (.slice (some ⟨g,0,none⟩) n2 c2) (.slice a3 n3 c3)
   exact bodyPost_ret (v:=.tuple #[ip a1 n1 c1 (some ⟨g,0,none⟩) n2 c2 a3 n3 c3,.int .i64 (S:Int),.int .i64 x,.bool false]) (by simp[results,Tryz.results4,go_sem,p0,p1,p2]) rfl ⟨_,_,_,_,_,_,_,_,_,rfl,kB HK6.out (Nat.le_refl _) _ _ _⟩
  ·have u5:decide (x<0)=false:=decide_eq_false c5'
   have u6:decide ((n2:Int)<=x)=true:=decide_eq_true (by omega)
   go_wp2_with fail
   obtain⟨p0,p1,p2⟩:=iy _ w.heap.size _ _ _ t0 t1 t2 (.slice a1 n1 c1) (.slice (some ⟨g,0,none⟩) n2 c2) (.slice a3 n3 c3)
   exact bodyPost_ret (v:=.tuple #[ip a1 n1 c1 (some ⟨g,0,none⟩) n2 c2 a3 n3 c3,.int .i64 (S:Int),.int .i64 x,.bool false]) (by simp[results,Tryz.results4,go_sem,p0,p1,p2]) rfl ⟨_,_,_,_,_,_,_,_,_,rfl,kB HK6.out (Nat.le_refl _) _ _ _⟩
 ·have u4:(l1==1)=false:=by simpa using c4'
  go_wp2_with fail
  obtain⟨p0,p1,p2⟩:=iy _ w.heap.size _ _ _ t0 t1 t2 (.slice a1 n1 c1) (.slice (some ⟨g,0,none⟩) n2 c2) (.slice a3 n3 c3)
  exact bodyPost_ret (v:=.tuple #[ip a1 n1 c1 (some ⟨g,0,none⟩) n2 c2 a3 n3 c3,.int .i64 (S:Int),.int .i64 x,.bool false]) (by simp[results,Tryz.results4,go_sem,p0,p1,p2]) rfl ⟨_,_,_,_,_,_,_,_,_,rfl,kB HK6.out (Nat.le_refl _) _ _ _⟩
end
section
open Go.RowKit Flt
variable {w0 W':World} {Q m g c:Nat} {u1 u2 u3:Value} {ins outs:List Int} {us us':List Vl}
structure Wh (w0 W:World)(Q:Nat)(u1 u2 u3:Value)(ins:List Int)(us:List Vl)(outs:List Int):Prop where
 dg:DG W w0.heap.size u1 u2 u3 ins us outs
 k0:Kept 0 0 w0 W
 bx:RB W Q u1 u2 u3
 nr:∀b,u1.ownBlock=some b\/u2.ownBlock=some b\/u3.ownBlock=some b->b≠Q
 hQ:w0.heap.size<=Q
theorem Wh.keep {W:World}(f:Wh w0 W Q u1 u2 u3 ins us outs)(k:Kept 0 0 W W'):Wh w0 W' Q u1 u2 u3 ins us outs:=
 ⟨f.dg.kept k (Nat.zero_le _),f.k0.trans k,f.bx.kept k (.inr (Nat.zero_le _)),f.nr,f.hQ⟩
theorem Wh.setG {W W2:World}{v1 v2 v3:Value}{ins':List Int}{outs':List Int}{S:Nat->Prop}(f:Wh w0 W Q u1 u2 u3 ins us outs)(c9:Chg S W W')(hS:∀b,S b->w0.heap.size<=b/\b≠Q)(hd:DG W' w0.heap.size v1 v2 v3 ins' us' outs')(hn:∀b,v1.ownBlock=some b\/v2.ownBlock=some b\/v3.ownBlock=some b->b≠Q)(kk:Kept Q (Q+1) W' W2)(hb:RB W2 Q v1 v2 v3):Wh w0 W2 Q v1 v2 v3 ins' us' outs':=by
 have hq:=f.hQ
 have own:∀{u:Value} {xs:List Value} {m e s:Nat},W'.ownsRow w0.heap.size e s u m xs->(∀b,u.ownBlock=some b->b≠Q)->W2.ownsRow w0.heap.size e s u m xs:=λo h=>iR o kk λb hb=>by have:=h b hb;omega
 refine⟨⟨own hd.r1 λb hb=>hn b (.inl hb),own hd.r2 λb hb=>hn b (.inr (.inl hb)),own hd.r3 λb hb=>hn b (.inr (.inr hb)),hd.a12,hd.a13,hd.a23,hd.k,Nat.le_trans hd.sz kk.size⟩,⟨kk.os.trans (c9.os.trans f.k0.os),kk.tape.trans (c9.tape.trans f.k0.tape),kk.output.trans (c9.output.trans f.k0.output),Nat.le_trans f.k0.size (Nat.le_trans c9.size kk.size),λb hb hz=>?_⟩,hb,hn,hq⟩
 have h1:=f.k0.size
 have h2:=c9.size
 rw[kk.block b (by omega) (by omega),c9.block b (by omega) (λq=>by have:=(hS b q).1;omega)]
 exact f.k0.block b hb hz
theorem Wh.ins_ {W:World}{x:Int}(f:Wh w0 W Q u1 u2 u3 ins us outs)(c9:Chg (λb=>u1.ownBlock=some b) W W')(ho:W'.ownsRow w0.heap.size 3 1 (.slice (some ⟨g,0,none⟩) m c) m ((ins++[x]).map (Value.int .i64)))(hm:m=(ins++[x]).length)(hg:u1.ownBlock=some g\/W.heap.size<=g):
  RB W' Q u1 u2 u3/\Wh w0 (W'.setCell ⟨Q,0,none⟩ (.slice (some ⟨g,0,none⟩) m c)) Q (.slice (some ⟨g,0,none⟩) m c) u2 u3 (ins++[x]) us outs:=by
 have hB:∀b,u1.ownBlock=some b->w0.heap.size<=b/\b≠Q:=λb hb=>⟨(ii f.dg.r1 hb).1,f.nr b (.inl hb)⟩
 have hb:=jC f.bx c9 (λc=>(hB _ c).2 rfl)
 refine⟨hb,f.setG c9 hB (f.dg.ins_ c9 ho hm hg) ?_ (it W' ⟨Q,0,none⟩ _ (.inl ⟨Nat.le_refl _,Nat.lt_succ_self _⟩)) (lp hb _).1⟩
 rintro b (h|h|h)
 ·have e:b=g:=by simpa[Value.ownBlock] using h.symm
  subst e
  rcases hg with c|c
  ·exact(hB _ c).2
  ·have:=f.bx.sz;omega
 ·exact f.nr b (.inr (.inl h))
 ·exact f.nr b (.inr (.inr h))
theorem Wh.outs_ {W:World}{x:Int}(f:Wh w0 W Q u1 u2 u3 ins us outs)(c9:Chg (λb=>u3.ownBlock=some b) W W')(ho:W'.ownsRow w0.heap.size 3 1 (.slice (some ⟨g,0,none⟩) m c) m ((outs++[x]).map (Value.int .i64)))(hm:m=(outs++[x]).length)(hg:u3.ownBlock=some g\/W.heap.size<=g):
  RB W' Q u1 u2 u3/\Wh w0 (W'.setCell ⟨Q,2,none⟩ (.slice (some ⟨g,0,none⟩) m c)) Q u1 u2 (.slice (some ⟨g,0,none⟩) m c) ins us (outs++[x]):=by
 have hB:∀b,u3.ownBlock=some b->w0.heap.size<=b/\b≠Q:=λb hb=>⟨(ii f.dg.r3 hb).1,f.nr b (.inr (.inr hb))⟩
 have hb:=jC f.bx c9 (λc=>(hB _ c).2 rfl)
 refine⟨hb,f.setG c9 hB (f.dg.outs_ c9 ho hm hg) ?_ (it W' ⟨Q,2,none⟩ _ (.inl ⟨Nat.le_refl _,Nat.lt_succ_self _⟩)) (lp hb _).2⟩
 rintro b (h|h|h)
 ·exact f.nr b (.inl h)
 ·exact f.nr b (.inr (.inl h))
 ·have e:b=g:=by simpa[Value.ownBlock] using h.symm
  subst e
  rcases hg with c|c
  ·exact(hB _ c).2
  ·have:=f.bx.sz;omega
theorem Wh.vals_ {W:World}(f:Wh w0 W Q u1 u2 u3 ins us outs)(c9:Chg (λb=>u2.ownBlock=some b) W W')(ho:W'.ownsRow w0.heap.size 31 6 (.slice (some ⟨g,0,none⟩) m c) m (iN us'))(hm:m=us'.length)(hg:u2.ownBlock=some g\/W.heap.size<=g)(hk:∀v∈us',v.k<18446744073709551616):
  RB W' Q u1 u2 u3/\Wh w0 (W'.setCell ⟨Q,1,none⟩ (.slice (some ⟨g,0,none⟩) m c)) Q u1 (.slice (some ⟨g,0,none⟩) m c) u3 ins us' outs:=by
 have hB:∀b,u2.ownBlock=some b->w0.heap.size<=b/\b≠Q:=λb hb=>⟨(ii f.dg.r2 hb).1,f.nr b (.inr (.inl hb))⟩
 have hb:=jC f.bx c9 (λc=>(hB _ c).2 rfl)
 refine⟨hb,f.setG c9 hB (f.dg.vals c9 ho hm hg hk) ?_ (it W' ⟨Q,1,none⟩ _ (.inl ⟨Nat.le_refl _,Nat.lt_succ_self _⟩)) (tu hb _)⟩
 rintro b (h|h|h)
 ·exact f.nr b (.inl h)
 ·have e:b=g:=by simpa[Value.ownBlock] using h.symm
  subst e
  rcases hg with c|c
  ·exact(hB _ c).2
  ·have:=f.bx.sz;omega
 ·exact f.nr b (.inr (.inr h))
theorem Wh.nil_ {W:World}(f:Wh w0 W Q u1 u2 u3 ins us outs):Wh w0 (W.setCell ⟨Q,2,none⟩ jw) Q u1 u2 jw ins us []:=by
 have hd:DG W w0.heap.size u1 u2 jw ins us []:=⟨f.dg.r1,f.dg.r2,World.ownsRow_nil _ _ _ _,f.dg.a12,λb _ h=>by simp[Value.ownBlock] at h,λb _ h=>by simp[Value.ownBlock] at h,f.dg.k,f.dg.sz⟩
 refine f.setG (S:=λ_=>False) (Kept.refl 0 0 W).chg (λ_ h=>h.elim) hd ?_ (it W ⟨Q,2,none⟩ _ (.inl ⟨Nat.le_refl _,Nat.lt_succ_self _⟩)) (lp f.bx _).2
 rintro b (h|h|h)
 ·exact f.nr b (.inl h)
 ·exact f.nr b (.inr (.inl h))
 ·simp[Value.ownBlock] at h
end
section
open Go.RowKit Flt
attribute [local go_sem] ic ib ia
def DuY (w:World)(ys:List Int)(T:List Int×List Vl×List Int×Nat)(s x:Int)(e:Ending)(w':World):Prop:=
 ∃g1 c1 g2 c2 g3 c3 n1 n2 n3 vs,e=.returned (.tuple #[ip (some ⟨g1,0,none⟩) n1 c1 (some ⟨g2,0,none⟩) n2 c2 (some ⟨g3,0,none⟩) n3 c3,.int .i64 s,.int .i64 x,.bool true])/\vs.map sv=T.2.1/\(n1=T.1.length+1/\n2=vs.length+1/\n3=s.toNat+1)/\DG w' (w.heap.size+1) (.slice (some ⟨g1,0,none⟩) n1 c1) (.slice (some ⟨g2,0,none⟩) n2 c2) (.slice (some ⟨g3,0,none⟩) n3 c3) (T.1++[(vs.getD x.toNat Vl.zero).len]) (duV ys T.1 vs x.toNat) (duO s.toNat)/\Kept 0 0 w w'
theorem Wh.fin {w W:World}{Q:Nat}{u1 u2 u3:Value}{ins:List Int}{us:List Vl}{outs:List Int}(f:Wh (w.alloc iw) W Q u1 u2 u3 ins us outs)(x y z:Value):
  DG (((W.setCell ⟨w.heap.size,0,none⟩ x).setCell ⟨w.heap.size,1,none⟩ y).setCell ⟨w.heap.size,2,none⟩ z) (w.heap.size+1) u1 u2 u3 ins us outs/\Kept 0 0 w (((W.setCell ⟨w.heap.size,0,none⟩ x).setCell ⟨w.heap.size,1,none⟩ y).setCell ⟨w.heap.size,2,none⟩ z):=by
 have hz:(w.alloc iw).heap.size=w.heap.size+1:=by simp
 refine⟨?_,kB ((hU 0 0 w iw).trans f.k0) (Nat.le_refl _) x y z⟩
 have S:∀(V:World) (o:Nat) (x:Value),Kept w.heap.size (w.heap.size+1) V (V.setCell ⟨w.heap.size,o,none⟩ x):=λV o x=>it V ⟨w.heap.size,o,none⟩ _ (.inl ⟨Nat.le_refl _,Nat.lt_succ_self _⟩)
 have hd:=f.dg
 rw[hz] at hd
 exact hd.kept (((S W 0 x).trans (S _ 1 y)).trans (S _ 2 z)) (Nat.le_refl _)
theorem zD (k:Nat):(List.range (k+1)).map (λi:Nat=>(i:Int))=(List.range k).map (λi:Nat=>(i:Int))++[(k:Int)]:=by rw[List.range_succ,List.map_append];rfl
theorem zE {w:World}{a am:Option Addr}{n cap nm cm:Nat}{xs:List Int}{ys:List Int}(hy:YS w am nm ys)(hnm:nm<=1048576)(h:YS w a n xs)(hc:n<=cap)(hf:ty (gdT (xs.take 500)))(hf2:rg (gdT (xs.take 500)) (gdS (xs.take 500)) (gdX (xs.take 500))):
  Calls Tryz.prog 4 #[.slice a n cap,.slice am nm cm] w (DuY w ys (gdT (xs.take 500)) (gdS (xs.take 500)) (gdX (xs.take 500))):=by
 have ka:=hU 0 0 w iw
 have h1:(w.alloc iw).heap.size=w.heap.size+1:=by simp
 have HD:Hid _:=qJ (h.keep ka) hc
 have HB:Hid _:=i9 w
 have HK:Hid _:=ka
 have HF:Hid _:=hf
 have HF2:Hid _:=hf2
 have HY:Hid _:=hy.keep ka
 have HK0:Hid (Kept 0 0 (w.alloc iw) (w.alloc iw)):=Kept.refl _ _ _
 generalize gdT (xs.take 500)=T at HD HF HF2 ⊢
 generalize gdS (xs.take 500)=s at HD HF2 ⊢
 generalize gdX (xs.take 500)=x at HD HF2 ⊢
 obtain⟨ins,vs0,outs,N0⟩:=T
 clear h hc ka hf hf2 hy
 go_enter Tryz.func4,Tryz.ntmps4
 go_wp2_with fail
 refine Calls.mono HD.out ?_
 rintro e W1 ⟨a1,c1,a2,c2,a3,c3,vs,rfl,hsv,d,k1⟩
 have hsv:vs.map sv=vs0:=hsv
 have hl:vs.length=vs0.length:=by rw[<-hsv,List.length_map]
 have hok:okG ins vs outs=okG ins vs0 outs:=qK (by rw[<-hsv,qM])
 have hce:ig vs=ig vs0:=by rw[<-hsv,nW]
 have hN:Hid ((okG ins vs outs=true/\vs.length<=60/\0<vs.length/\ins.length<20/\ig vs<=600)):=by
  show _/\_
  rw[hok,hl,hce]
  exact HF.out
 have hg0:∀j,(vs.getD j Vl.zero).len=(vs0.getD j Vl.zero).len:=λj=>by
  have:=congrArg Vl.len (nw (us:=vs) (vs:=vs0) (by rw[<-hsv,qM]) j)
  exact this
 have hF2:=HF2.out
 unfold rg at hF2
 simp only[<-hl,<-hg0] at hF2
 clear HF HF2 hl hok hce hg0 HD
 simp only at d hN
 have hi:ins.length<=9223372036854775807/\vs.length<=9223372036854775807:=⟨lL d.r1 rfl,lL d.r2 rfl⟩
 generalize hn1:ins.length=n1 at d hN hi ⊢
 generalize hn2:vs.length=n2 at d hN hi hF2 ⊢
 generalize hn3:outs.length=n3 at d ⊢
 have ko:=hU 0 0 W1 (iv a1 n1 c1 a2 n2 c2 a3 n3 c3)
 have hb:=kj (S:=λ_=>False) W1 _ #[.slice a1 n1 c1,.slice a2 n2 c2,.slice a3 n3 c3] 26 (Kept.refl 0 0 _).chg (λc=>c)
 have HBx:Hid (RB (W1.alloc (iv a1 n1 c1 a2 n2 c2 a3 n3 c3)) W1.heap.size (.slice a1 n1 c1) (.slice a2 n2 c2) (.slice a3 n3 c3)):=⟨hb.2.2,hb.1 0,hb.1 1,hb.1 2,hb.2.1 0,hb.2.1 1,hb.2.1 2⟩
 have HKK:Hid (Kept 0 0 w (W1.alloc (iv a1 n1 c1 a2 n2 c2 a3 n3 c3))):=HK.out.trans (k1.trans ko)
 have HBr:Hid _:=HB.out.keep (k1.trans ko)
 have HKA:Hid (Kept 0 0 (w.alloc iw) (W1.alloc (iv a1 n1 c1 a2 n2 c2 a3 n3 c3))):=k1.trans ko
 have hfar:Hid (∀b,(Value.slice a1 n1 c1).ownBlock=some b\/(Value.slice a2 n2 c2).ownBlock=some b\/(Value.slice a3 n3 c3).ownBlock=some b->w.heap.size<b/\b<W1.heap.size):=by
  rintro b (c|c|c)
  ·have:=ii d.r1 c;omega
  ·have:=ii d.r2 c;omega
  ·have:=ii d.r3 c;omega
 have HDG:Hid _:=d.kept ko (Nat.zero_le _)
 have HV:Hid _:=kN _ a1 a2 a3 n1 c1 n2 c2 n3 c3 ins vs outs (HDG.out.gs hn1 hn2 hn3)
 have hlt:w.heap.size<W1.heap.size:=by have:=k1.size;omega
 clear hb ko k1 d HK HB HK0
 go_wp2_with fail
 generalize W1.alloc (iv a1 n1 c1 a2 n2 c2 a3 n3 c3)=W2 at HBx HKK HBr HDG HV HKA ⊢
 generalize W1.heap.size=Q at HBx hlt hfar ⊢
 refine Calls.mono HV.out ?_
 rintro e W3 ⟨rfl,k3⟩
 have HBx3:Hid _:=HBx.out.keep k3
 have HBr3:Hid _:=HBr.out.keep k3
 have HDG3:Hid _:=HDG.out.kept k3 (Nat.zero_le _)
 have HK3:Hid _:=HKK.out.trans k3
 have HA3:Hid _:=HKA.out.trans k3
 clear k3 HBx HBr HDG HKK HV HKA
 obtain⟨_,q0,q1,q2,_,_,_⟩:=HBx3.out
 obtain⟨hr,r0,r1,r2,rf0,rf1,rf2⟩:=HBr3.out
 have hQ2:¬w.heap.size=Q:=by omega
 have hQ3:¬Q=w.heap.size:=by omega
 obtain⟨hi1,hi2⟩:=hi
 obtain⟨ho,c60,c0,c20,hcl⟩:=hN.out
 have hV:∀j,j<n2->okV ins vs j=true:=λj hj=>by
  have ho:=ho
  unfold okG at ho
  simp only[Bool.and_eq_true] at ho
  exact List.all_eq_true.1 ho.2.2.1 j (List.mem_range.2 (by rw[hn2];exact hj))
 have r2':=HDG3.out.r2
 rw[hn2] at r2'
 have HL:Hid _:=lS (a1:=a1) (n1:=n1) (c1:=c1) (a3:=a3) (n3:=n3) (c3:=c3) r2' hn2 (by omega) λj hj=>ja (hV j hj)
 have c0':¬n2=0:=by omega
 have HO:Hid _:=ho
 rw[ho]
 clear r2' hN ho
 generalize ig vs=z at hcl HL
 have b6:decide (600<z)=false:=decide_eq_false (by omega)
 have b60:decide (60<(n2:Int))=false:=decide_eq_false (by omega)
 have bz:((n2:Int)==0)=false:=by simpa using c0'
 have b20:decide (20<=(n1:Int))=false:=decide_eq_false (by omega)
 go_wp2_with fail
 refine Calls.mono HL.out ?_
 rintro e W4 ⟨rfl,k4⟩
 have HK4:Hid _:=HK3.out.trans k4
 have HA4:Hid _:=HA3.out.trans k4
 have HDG4:Hid _:=HDG3.out.kept k4 (Nat.zero_le _)
 have HBx4:Hid _:=HBx3.out.keep k4
 have HBr4:Hid _:=HBr3.out.keep k4
 clear q0 q1 q2 hr r0 r1 r2 rf0 rf1 rf2 HL HK3 HA3 HDG3 HBx3 HBr3 k4
 obtain⟨_,q0,q1,q2,_,_,_⟩:=HBx4.out
 have HW:Hid _:=we (cm:=cm) HA4.out HY.out hnm HDG4.out hn2.symm (by omega)
 go_wp2_with fail
 refine Calls.mono HW.out ?_
 rintro e W5 ⟨rfl,d5,k5,ch5⟩
 have nQ:¬(Value.slice a2 n2 c2).ownBlock=some Q:=λc=>by have:=(hfar.out Q (.inr (.inl c))).2;omega
 have nR:¬(Value.slice a2 n2 c2).ownBlock=some w.heap.size:=λc=>by have:=(hfar.out _ (.inr (.inl c))).1;omega
 have HBx5:Hid _:=jC HBx4.out ch5 nQ
 have HBr5:Hid _:=jC HBr4.out ch5 nR
 have HDG5:Hid _:=d5
 have HA5:Hid _:=k5
 clear q0 q1 q2 nQ nR d5 k5 ch5 HW HK4 HA4 HDG4 HBx4 HBr4
 obtain⟨_,q0,q1,q2,qf0,qf1,qf2⟩:=HBx5.out
 obtain⟨hr,r0,r1,r2,rf0,rf1,rf2⟩:=HBr5.out
 obtain⟨f1,f2,f3,f4,f5,f6⟩:=hF2
 obtain⟨S,rfl⟩:∃S:Nat,s=S:=⟨s.toNat,by omega⟩
 obtain⟨X,rfl⟩:∃X:Nat,x=X:=⟨x.toNat,by omega⟩
 have u1:decide ((S:Int)<0)=false:=decide_eq_false (by omega)
 have u2:decide ((n2:Int)<=S)=false:=decide_eq_false (by omega)
 have u3:decide (50<=(S:Int))=false:=decide_eq_false (by omega)
 have u5:decide ((X:Int)<0)=false:=decide_eq_false (by omega)
 have u6:decide ((n2:Int)<=X)=false:=decide_eq_false (by omega)
 have r25:=HDG5.out.r2
 rw[jp,hn2] at r25
 obtain⟨g,cp,eu,_,hg2,hat⟩:=iY r25 ((jp _ _ _).trans hn2) (k:=S) (by omega)
 cases eu
 obtain⟨g',cp',eu',_,_,hatx⟩:=iY r25 ((jp _ _ _).trans hn2) (k:=X) (by omega)
 cases eu'
 have y1:=hat.c1
 rw[oT _ _ _ (by omega),show(vs.getD S Vl.zero).len=1 from f4] at y1
 have x1:=hatx.c1
 rw[oT _ _ _ (by omega)] at x1
 have hgQ:¬g=Q:=λc=>by have:=(hfar.out g (.inr (.inl rfl))).2;omega
 have hgQ':¬Q=g:=λc=>hgQ c.symm
 clear r25 hat hatx
 have HW5:Hid (Wh (w.alloc iw) W5 Q (.slice a1 n1 c1) (.slice (some ⟨g,0,none⟩) n2 c2) (.slice a3 n3 c3) ins (whU ys vs n2) outs):=⟨HDG5.out,HA5.out,HBx5.out,λb hb=>by have:=(hfar.out b hb).2;omega,by omega⟩
 have HW6:Hid (Wh (w.alloc iw) (((W5.setCell ⟨Q,0,none⟩ (.slice a1 n1 c1)).setCell ⟨Q,1,none⟩ (.slice (some ⟨g,0,none⟩) n2 c2)).setCell ⟨Q,2,none⟩ (.slice a3 n3 c3)) Q (.slice a1 n1 c1) (.slice (some ⟨g,0,none⟩) n2 c2) (.slice a3 n3 c3) ins (whU ys vs n2) outs):=by
  have S:∀(W:World) (o:Nat) (x:Value),Kept Q (Q+1) W (W.setCell ⟨Q,o,none⟩ x):=λW o x=>it W ⟨Q,o,none⟩ _ (.inl ⟨Nat.le_refl _,Nat.lt_succ_self _⟩)
  exact HW5.out.setG (S:=λ_=>False) (Kept.refl 0 0 W5).chg (λ_ h=>h.elim) HW5.out.dg HW5.out.nr (((S _ 0 _).trans (S _ 1 _)).trans (S _ 2 _)) (lp (tu (lp HBx5.out _).1 _) _).2
 have HLn:Hid _:=ja (hV X (by omega))
 have HX:Hid (∃l0,(vs.getD X Vl.zero).len=l0):=⟨_,rfl⟩
 obtain⟨l0,hl0⟩:=HX.out
 rw[hl0] at x1
 have HL0:Hid _:=hl0
 clear hl0 HX hV HW5 HDG5 HA5 HBx5
 go_upto_region 8 with fail
 generalize ((W5.setCell ⟨Q,0,none⟩ (.slice a1 n1 c1)).setCell ⟨Q,1,none⟩ (.slice (some ⟨g,0,none⟩) n2 c2)).setCell ⟨Q,2,none⟩ (.slice a3 n3 c3)=W6 at HW6 ⊢
 have D7:=HW6.out.keep (hU 0 0 W6 (.cells #[.int .i64 l0] 3))
 have hr7:=D7.dg.r1
 have HD7:Hid _:=D7
 obtain⟨_,q0,q1,q2,qf0,qf1,qf2⟩:=HW6.out.bx
 clear D7
 go_upto_region 9 with (first|(at_builtin;refine jd _ rfl _ _ rfl (w.alloc iw).heap.size _ ins rfl hr7 ⟨W6.heap.size,0,none⟩ l0 rfl (by simp) (by omega) HD7.out.dg.sz ?_;intro g9 cap9 n9 w9 hn9 hown9 hc9 hat9;obtain⟨hb9,hd8⟩:=HD7.out.ins_ hc9 hown9 hn9 (hat9.imp id λe=>Nat.le_of_eq e.symm);have HD8:Hid _:=hd8;clear hd8;replace hn9:Hid _:=hn9;obtain⟨_,z0,z1,z2,f0,f1,f2⟩:=hb9))
 have e9:n9=n1+1:=by have:=hn9.out;rw[List.length_append,hn1] at this;exact this
 subst e9
 generalize w9.setCell ⟨Q,0,none⟩ (.slice (some ⟨g9,0,none⟩) (n1+1) cap9)=W7 at HD8 ⊢
 clear hown9 hc9 hat9 z0 z1 z2 f0 f1 f2 hr7 HD7 HW6 q0 q1 q2 qf0 qf1 qf2 hn9 x1 y1
 obtain⟨_,z0,z1,z2,f0,f1,f2⟩:=HD8.out.bx
 have D9:=HD8.out.keep (hU 0 0 W7 (ij 0 l0 (n1:Int) 0 0 0))
 have hr9:=D9.dg.r2
 have HD9:Hid _:=D9
 clear D9
 go_upto_region 10 with (first|(at_builtin;refine nl _ rfl _ _ rfl (w.alloc iw).heap.size _ (whU ys vs n2) rfl hr9 W7.heap.size ⟨0,l0,(n1:Int),0,0,0⟩ rfl (by intro j u hu;have h6:=vI W7 ⟨0,l0,(n1:Int),0,0,0⟩ 0 j u hu;exact h6) (by rw[jp,hn2];omega) HD9.out.dg.sz ?_;intro ga capa na wa hna howna hca hata;obtain⟨hba,hda⟩:=HD9.out.vals_ hca howna hna (hata.imp id λe=>Nat.le_of_eq e.symm) (by intro u hu;rcases List.mem_append.1 hu with c|c;exact HD9.out.dg.k u c;simp only[List.mem_singleton] at c;subst c;exact Nat.zero_lt_succ _);have HDa:Hid _:=hda;clear hda;replace hna:Hid _:=hna;obtain⟨_,z0,z1,z2,f0,f1,f2⟩:=hba))
 have ea:na=n2+1:=by have:=hna.out;rw[List.length_append,jp,hn2] at this;exact this
 subst ea
 have HDb:Hid _:=HDa.out.nil_
 have HDc:Hid _:=HDa.out.bx
 generalize wa.setCell ⟨Q,1,none⟩ (.slice (some ⟨ga,0,none⟩) (n2+1) capa)=Wa at HDa HDb HDc ⊢
 clear howna hca hata z0 z1 z2 f0 f1 f2 hr9 HD9 HD8 hna HDa
 obtain⟨_,z0,z1,z2,f0,f1,f2⟩:=HDc.out
 clear HDc
 go_wp2_with fail
 generalize Wa.setCell ⟨Q,2,none⟩ jw=Wb at HDb ⊢
 clear z0 z1 z2 f0 f1 f2
 go_loopw [12] (λt W=>∃k:Nat,k<=S+1/\t=.int .i64 (k:Int)/\Hid (∃a3 c3,(0<k->∃g,a3=some ⟨g,0,none⟩)/\Wh (w.alloc iw) W Q (.slice (some ⟨g9,0,none⟩) (n1+1) cap9) (.slice (some ⟨ga,0,none⟩) (n2+1) capa) (.slice a3 k c3) (ins++[l0]) (whU ys vs n2++[⟨0,l0,(n1:Int),0,0,0⟩]) ((List.range k).map (λi:Nat=>(i:Int))))) (λt _=>S+1-(intOf t).toNat)
 case atStart=>exact⟨0,Nat.zero_le _,rfl,none,0,λc=>absurd c (Nat.lt_irrefl _),HDb.out⟩
 case round=>
  obtain⟨k,hk,rfl,hD⟩:=hrel
  clear HDb
  obtain⟨b3,d3,hgk,D⟩:=hD.out
  clear hD
  by_cases hlt:k<=S
  ·have hD0:=D.keep (hU 0 0 wr (.cells #[.int .i64 (k:Int)] 3))
   have hr0:=hD0.dg.r3
   have HD0:Hid _:=hD0
   have hLk:((List.range k).map (λi:Nat=>(i:Int))).length=k:=by simp
   have HLK:Hid _:=hLk
   obtain⟨_,q0,q1,q2,qf0,qf1,qf2⟩:=D.bx
   clear D hD0 hgk hLk
   go_upto_region 13 with (first|(at_builtin;refine jd _ rfl _ _ rfl (w.alloc iw).heap.size _ ((List.range k).map (λi:Nat=>(i:Int))) rfl hr0 ⟨wr.heap.size,0,none⟩ (k:Int) rfl (by simp) (by have:=HLK.out;omega) HD0.out.dg.sz ?_;intro g9' cap9' n9' w9' hn9' hown9' hc9' hat9';obtain⟨hb9',hd8'⟩:=HD0.out.outs_ hc9' hown9' hn9' (hat9'.imp id λe=>Nat.le_of_eq e.symm);have HD8':Hid _:=hd8';clear hd8';replace hn9':Hid _:=hn9';obtain⟨_,z0,z1,z2,f0,f1,f2⟩:=hb9'))
   have e9:n9'=k+1:=by have:=hn9'.out;rw[List.length_append,HLK.out] at this;exact this
   subst e9
   rw[<-zD] at HD8'
   go_wp2_with fail
   go_roundw
   case rel=>exact⟨k+1,by omega,by go_num,_,_,λ_=>⟨_,rfl⟩,HD8'.out⟩
   case measure=>simp[intOf];omega
  ·obtain rfl:k=S+1:=by omega
   obtain⟨g3,rfl⟩:=hgk (Nat.zero_lt_succ _)
   have HFin:Hid _:=D.fin (.slice (some ⟨g9,0,none⟩) (n1+1) cap9) (.slice (some ⟨ga,0,none⟩) (n2+1) capa) (.slice (some ⟨g3,0,none⟩) (S+1) d3)
   obtain⟨_,q0,q1,q2,qf0,qf1,qf2⟩:=D.bx
   obtain⟨_,t0,t1,t2,tf0,tf1,tf2⟩:=(i9 w).keep D.k0
   have eS:((S+1:Nat):Int)=(S:Int)+1:=rfl
   clear D hgk hr r0 r1 r2 rf0 rf1 rf2 HBr5
   go_wp2_with fail
   obtain⟨p0,p1,p2⟩:=iy _ w.heap.size _ _ _ t0 t1 t2 (.slice (some ⟨g9,0,none⟩) (n1+1) cap9) (.slice (some ⟨ga,0,none⟩) (n2+1) capa) (.slice (some ⟨g3,0,none⟩) (S+1) d3)
   refine bodyPost_ret (v:=.tuple #[ip (some ⟨g9,0,none⟩) (n1+1) cap9 (some ⟨ga,0,none⟩) (n2+1) capa (some ⟨g3,0,none⟩) (S+1) d3,.int .i64 S,.int .i64 X,.bool true]) (by simp[results,Tryz.results4,go_sem,p0,p1,p2]) rfl ⟨_,_,_,_,_,_,_,_,_,vs,rfl,hsv,⟨by show _=ins.length+1;rw[hn1],by rw[hn2],rfl⟩,?_,HFin.out.2⟩
   have:=HFin.out.1
   show DG _ _ _ _ _ (ins++[(vs.getD X Vl.zero).len]) (duV ys ins vs X) (duO S)
   unfold duV duO
   rw[HL0.out,hn1,hn2]
   exact this
end
end Go.Proofs.YtnlffngpnoodkaaGreat
