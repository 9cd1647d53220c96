import Derived.Test.YtdpbpcnldpkljaaGreatP50
namespace Go.Proofs.Z
open Tryz
set_option maxRecDepth 1000000
set_option maxHeartbeats 0
open Go.RowKit Flt
attribute [local go_sem] eD eB eA
variable {ps us:List Tok} {j:Nat}
theorem Ep {f:Nat}{W:World}{P B:Nat}{u1 u2 u3 u4:Value}{bs:List Bc}{st:LSt}{g off m cap:Nat}{k n c l:Tok}(H:TrIn W P B u1 u2 u3 u4 bs st none 0 [] g off m cap [k,n,c,l])(hk:k.sym=kIn)(hl:l.sym=gm){r:Rs LSt}(h:gU f st (.inS n l)=some r):
  Calls prog 46 #[.pointer (some ⟨P,0,none⟩),.slice (some ⟨g,off,none⟩) m cap] W (StO W P B u1 u2 u3 u4 r):=by
 have hD:Dgs l.text:=H.ti l xac hl
 have hm:([k,n,c,l]).length=m:=H.tk.len
 simp only[yap,List.length_nil] at hm
 have hmc:=H.mc
 have m5:=H.m5
 have hbl:bs.length<=100000:=by rw[H.ws.nl];have:=H.gd.m;omega
 have c0:=H.tk.c0 0 xaa
 have n0:=H.tk.c0 1 xaa
 have n1:=H.tk.c1 1 xaa
 have n2:=H.tk.c2 1 xaa
 rw[show([k,n,c,l]).getD 0 Tok.zero=k from rfl] at c0
 rw[show([k,n,c,l]).getD 1 Tok.zero=n from rfl] at n0 n1 n2
 rw[hk,show kIn=[105,110] from rfl] at c0
 have HH:Hid _:=H
 have HFar:Hid _:=H.ws.far
 obtain⟨nsy,np,ntx⟩:=n
 simp only[Nat.zero_mul,Nat.add_zero,Nat.one_mul] at c0 n0 n1 n2
 simp only[gU] at h
 have HR:Hid _:=h
 have l0:=H.tk.c0 3 xaa
 have l1:=H.tk.c1 3 xaa
 have l2:=H.tk.c2 3 xaa
 rw[show([k,⟨nsy,np,ntx⟩,c,l]:List Tok).getD 3 Tok.zero=l from rfl] at l0 l1 l2
 have HI:Hid (∀W',_):=λW'=>tT l hD W'
 have hLt:=H.tk.lt
 have hiB:=mE hD yad
 rw[yao yad] at hiB
 obtain⟨lsy,lp,ltx⟩:=l
 unfold ik at HI
 simp only at*
 have hmB:4<=m:=xaa
 clear h H hk hl hD hm
 generalize hKe:gz ltx=K at*
 have HKe:Hid _:=hKe
 clear hKe
 have HCl:Hid (∀W',Kept 0 0 W W'->W'.cell? ⟨g,off+3*3,none⟩=some (eE lsy)/\W'.cell? ⟨g,off+3*3+1,none⟩=some (.int .i64 (lp:Int))/\W'.cell? ⟨g,off+3*3+2,none⟩=some (eE ltx)):=λW' kk=>⟨(kk.cell (p:=⟨g,off+3*3,none⟩) hLt xaa).trans l0,(kk.cell (p:=⟨g,off+3*3+1,none⟩) hLt xaa).trans l1,(kk.cell (p:=⟨g,off+3*3+2,none⟩) hLt xaa).trans l2⟩
 clear l0 l1 l2
 go_enter func46,ntmps46
 go_upto_region 20 with fail
 go_upto_region 21 with fail
 change Code.wp _ _ _ _ (W.alloc (.cells #[eE nsy,.int .i64 (np:Int),eE ntx] 74))
 have HB:Hid (TB (W.alloc (.cells #[eE nsy,.int .i64 (np:Int),eE ntx] 74)) W.heap.size nsy np ntx):=gH W nsy np ntx
 have HK:Hid _:=ez 0 0 W (.cells #[eE nsy,.int .i64 (np:Int),eE ntx] 74)
 generalize W.alloc (.cells #[eE nsy,.int .i64 (np:Int),eE ntx] 74)=W1 at HB HK ⊢
 generalize W.heap.size=bx at HB HFar ⊢
 have HW1:Hid _:=HH.out.ws.keep HK.out
 have b1:=HB.out.c1
 have b2:=HB.out.c2
 clear n0 n1 n2
 cases hfb:ie st.names ntx with
 |some d=>
  have HFd:Hid _:=mK HW1.out hbl hfb
  have HR2:Hid (r=.error (3,np)):=by
   have h:=HR.out
   rw[qb (n:=⟨nsy,np,ntx⟩) hfb] at h
   exact(Option.some.inj h).symm
  have HS3:Hid _:=iL HW1.out.c5 HW1.out.c6 HW1.out.fr 3 np (Mst P u1 u2 u3 u4) (.inl rfl)
  clear hfb HR HH HW1
  go_wp2_with (first
   |(go_at_call 76;refine yai HFd.out ?_;rintro e w2 ⟨k2,rfl,hw⟩;obtain rfl:=hw.symm;have hpos:(0:Int)<=(k2:Int):=by omega)
   |(go_at_call 74;refine yai HS3.out ?_;rintro e w3 ⟨rfl,hbad⟩))
  refine yay (v:=.tuple #[]) (by simp[results,results46,go_sem]) rfl ?_
  rw[HR2.out]
  exact⟨rfl,hbad.c5,hbad.c6,(Mv.of HK.out).bad hbad.chg⟩
 |none=>
  have HFd:Hid _:=mJ HW1.out hbl hfb
  have HFn:Hid _:=hfb
  clear hfb
  go_upto_region 23 with (go_at_call 76;refine yai HFd.out ?_;rintro e w2 ⟨rfl,hw⟩;obtain rfl:=hw.symm)
  clear HFd
  obtain⟨l0,l1,l2⟩:=HCl.out W1 HK.out
  have HR2:Hid (r=inR st ⟨nsy,np,ntx⟩ ⟨lsy,lp,ltx⟩):=by
   have h:=HR.out
   rw[qd (n:=⟨nsy,np,ntx⟩) HFn.out] at h
   exact(Option.some.inj h).symm
  clear HR HFn
  go_upto_region 43 with (go_at_call 77;refine yai (HI.out _) ?_;rintro e w3 ⟨rfl,k3⟩)
  have HK3:Hid _:=HK.out.trans k3
  have HB3:Hid _:=HB.out.keep k3
  have HW3:Hid _:=HW1.out.keep k3
  obtain⟨_,l1,_⟩:=HCl.out w3 HK3.out
  have b1:=HB3.out.c1
  have HFar3:Hid _:=HFar.out
  clear k3 HI HW1 HK l0 l2 b2 c0
  have HRi:Hid (r=if K<1\/1000<K then .error (4,lp) else if 20<=st.ins.length then .error (5,np) else nh ntx (fI {st with ins:=st.ins++[K]} (eI 0 K (st.ins.length:Int) 0 0) np)):=by
   show _=_
   rw[HR2.out]
   unfold inR
   simp only
   rw[HKe.out]
  clear HR2 HKe
  have HS:Hid (∀cc pp,_):=λcc pp=>iL HW3.out.c5 HW3.out.c6 HW3.out.fr cc pp (Mst P u1 u2 u3 u4) (.inl rfl)
  by_cases h1:K<1
  ·have HRe:Hid (r=.error (4,lp)):=by show _=_;rw[HRi.out,if_pos (.inl h1)]
   have HS4:Hid _:=HS.out 4 lp
   clear HRi HS HW3
   go_wp2_with (go_at_call 74;refine yai HS4.out ?_;rintro e w4 ⟨rfl,hbad⟩)
   refine yay (v:=.tuple #[]) (by simp[results,results46,go_sem]) rfl ?_
   rw[HRe.out]
   exact⟨rfl,hbad.c5,hbad.c6,(Mv.of HK3.out).bad hbad.chg⟩
  ·by_cases h2:1000<K
   ·have HRe:Hid (r=.error (4,lp)):=by show _=_;rw[HRi.out,if_pos (.inr h2)]
    have HS4:Hid _:=HS.out 4 lp
    clear HRi HS HW3
    go_wp2_with (go_at_call 74;refine yai HS4.out ?_;rintro e w4 ⟨rfl,hbad⟩)
    refine yay (v:=.tuple #[]) (by simp[results,results46,go_sem]) rfl ?_
    rw[HRe.out]
    exact⟨rfl,hbad.c5,hbad.c6,(Mv.of HK3.out).bad hbad.chg⟩
   ·obtain⟨a1,x1,e1⟩:=iB HW3.out.r1
    have p0:=HW3.out.c0
    by_cases h3:20<=st.ins.length
    ·have HRe:Hid (r=.error (5,np)):=by show _=_;rw[HRi.out,if_neg xaa,if_pos h3]
     have HS4:Hid _:=HS.out 5 np
     have h3':(20:Int)<=(st.ins.length:Int):=xaa
     rw[e1] at p0
     clear HRi HS HW3 l1
     generalize st.ins.length=ni at*
     go_wp2_with (go_at_call 74;refine yai HS4.out ?_;rintro e w4 ⟨rfl,hbad⟩)
     refine yay (v:=.tuple #[]) (by simp[results,results46,go_sem]) rfl ?_
     rw[HRe.out]
     exact⟨rfl,hbad.c5,hbad.c6,(Mv.of HK3.out).bad hbad.chg⟩
    ·have HRo2:Hid (r=nh ntx (fI {st with ins:=st.ins++[K]} (eI 0 K (st.ins.length:Int) 0 0) np)):=by show _=_;rw[HRi.out,if_neg xaa,if_neg h3]
     have hK:1<=K/\K<=1000:=xaa
     have HG1:Hid _:=E7 HH.out.gd K xaa
     have HOk:Hid _:=λs4 v (e:fI {st with ins:=st.ins++[K]} (eI 0 K (st.ins.length:Int) 0 0) np=.ok (s4,v))=>lN HG1.out (E8 HH.out.gd hK) e
     have hCn:(w3.alloc (.cells #[.int .i64 K] 3)).cell? ⟨w3.heap.size,0,none⟩=some (.int .i64 K):=by rw[yau];rfl
     have ka:=ez 0 0 w3 (.cells #[.int .i64 K] 3)
     have HWa:Hid _:=HW3.out.keep ka
     have HKa:Hid _:=HK3.out.trans ka
     have HBa:Hid _:=HB3.out.keep ka
     have HBz:Hid (B<=w3.heap.size):=by show _<=_;have:=HW3.out.sz;have:=HW3.out.lt;omega
     have h3':¬(20:Int)<=(st.ins.length:Int):=xaa
     have HNI:Hid (st.ins.length<20):=by show _<_;omega
     clear HRi HS HW3 l1 HB3 ka b1
     subst e1
     go_upto_region 47 with fail
     go_wp2_with (first|(at_builtin;refine fk _ rfl _ _ rfl B _ st.ins (by rfl) HWa.out.r1 ⟨w3.heap.size,0,none⟩ K (by rfl) hCn ?c2 ?c3 ?_)|fail)
     case c2=>have:=HNI.out;omega
     case c3=>have:=HBz.out;simp;omega
     intro g9 cap9 n9 w9 hn9 hR9 hC9 hG9
     obtain⟨hWn,hMn⟩:=HWa.out.ins_ (n9:=n9) (cap9:=cap9) (g9:=g9) (zs:=st.ins++[K]) hC9 (by rw[hn9];simp) (by rw[List.map_append];exact hR9) (hG9.imp id (λe=>by rw[e];simp))
     have hlt:=HWa.out.lt
     have y0:=(hC9.cell (p:=⟨P,0,none⟩) hlt HWa.out.np.1).trans HWa.out.c0
     have yf:=(hC9.frozen (p:=⟨P,0,none⟩) hlt HWa.out.np.1).trans (HWa.out.fr 0)
     have hn10:n9=st.ins.length+1:=by rw[hn9]
     subst hn10
     have HWn:Hid _:=hWn
     have HMa:Hid _:=(Mv.of (M:=Mst P (.slice a1 st.ins.length x1) u2 u3 u4) HKa.out).trans hMn
     have HBn:Hid _:=HBa.out.keepC hMn.chg HFar3.out
     have HF5:Hid (¬Mst P (.slice (some ⟨g9,0,none⟩) (st.ins.length+1) cap9) u2 u3 u4 bx):=λc=>(hMn.new bx c).elim HFar3.out (λc=>by have:=HBa.out.lt;omega)
     clear hWn hMn hC9 hR9 hG9 hn9 hCn HWa HKa
     go_upto_region 48 with fail
     clear y0 yf hlt
     generalize w9.setCell ⟨P,0,none⟩ (.slice (some ⟨g9,0,none⟩) (st.ins.length+1) cap9)=w5 at HWn HMa HBn ⊢
     clear HBa HCl hLt HH HB p0
     have HPt:Hid (∀W' (av:Int),av=(st.ins.length:Int)->Kept 0 0 w5 W'->Calls prog 78 #[.pointer (some ⟨P,0,none⟩),(eI 0 K av 0 0).agg,.int .i64 (np:Int)] W' λe W''=>Hid (TrO w5 P B (.slice (some ⟨g9,0,none⟩) (st.ins.length+1) cap9) u2 u3 u4 bs (fI {st with ins:=st.ins++[K]} (eI 0 K (st.ins.length:Int) 0 0) np) e W'')/\(∃x:Int,e=.returned (.int .i64 x))/\W''.cell? ⟨bx,1,none⟩=some (.int .i64 (np:Int))/\W''.cell? ⟨P,0,none⟩=some (.slice (some ⟨g9,0,none⟩) (st.ins.length+1) cap9)):=λW' av hav kk=>by
      subst hav
      exact yai (GW (HWn.out.keep kk) HG1.out (eI 0 K (st.ins.length:Int) 0 0) hK yag np) (λe W'' t=>⟨TrO.back kk t.1,t.1.ret,(t.1.chg.cell (p:=⟨bx,1,none⟩) (HBn.out.keep kk).lt HF5.out).trans (HBn.out.keep kk).c1,t.2⟩)
     have HCx:Hid (∀W',Kept 0 0 w5 W'->W'.cell? ⟨bx,1,none⟩=some (.int .i64 (np:Int))/\W'.cell? ⟨P,0,none⟩=some (.slice (some ⟨g9,0,none⟩) (st.ins.length+1) cap9)):=λW' kk=>⟨(HBn.out.keep kk).c1,(HWn.out.keep kk).c0⟩
     generalize fI {st with ins:=st.ins++[K]} (eI 0 K (st.ins.length:Int) 0 0) np=r4 at HPt HOk HRo2
     obtain⟨t1,t0⟩:=HCx.out w5 (Kept.refl 0 0 w5)
     have HNmW:Hid _:=HWn.out.nl
     clear HWn HG1
     generalize st.ins.length=ni at*
     rcases r4 with⟨cc,pp⟩|⟨s,v⟩
     ·have HRe:Hid (r=.error (cc,pp)):=HRo2.out
      go_region_held3 (λw'=>w'.cell? ⟨bx,1,none⟩=some (.int .i64 (np:Int))/\w'.cell? ⟨P,0,none⟩=some (.slice (some ⟨g9,0,none⟩) (ni+1) cap9)) (go_keep)
       (first
        |(go_at_call 26;refine yai (gj _ _ _ _ _ _) ?_;rintro e w6 ⟨rfl,k6⟩;obtain⟨q1,q0⟩:=HCx.out w6 ((eC w5).trans k6))
        |(go_at_call 78;refine yai (HPt.out _ _ (by rw[IntKind.wrap_i64];omega) ((eC w5).trans k6)) ?_;rintro e w7 ⟨hT,⟨_,_⟩,g1,g0⟩;obtain rfl:=hT.out.1))
      all_goals (
       go_wp2_with fail
       refine yay (v:=.tuple #[]) (by simp[results,results46,go_sem]) rfl ?_
       rw[HRe.out]
       exact⟨rfl,hT.out.2.1,hT.out.2.2.1,HMa.out.bad hT.out.2.2.2⟩)
     ·obtain⟨w4,hv,_⟩:=HOk.out s v rfl
      have hv0:(0:Int)<=(v:Int):=xaa
      have hGT:=w4.g
      have HRT:Hid (r=.ok {s with names:=s.names++[.val ntx v]}):=HRo2.out
      clear HOk HRo2 w4
      go_region_held3 (λw'=>w'.cell? ⟨bx,1,none⟩=some (.int .i64 (np:Int))/\w'.cell? ⟨P,0,none⟩=some (.slice (some ⟨g9,0,none⟩) (ni+1) cap9)) (go_keep)
       (first
        |(go_at_call 26;refine yai (gj _ _ _ _ _ _) ?_;rintro e w6 ⟨rfl,k6⟩;obtain⟨q1,q0⟩:=HCx.out w6 ((eC w5).trans k6))
        |(go_at_call 78;refine yai (HPt.out _ _ (by rw[IntKind.wrap_i64];omega) ((eC w5).trans k6)) ?_;rintro e wT ⟨hT,⟨_,_⟩,g1,g0⟩;obtain rfl:=hT.out.1))
      all_goals (
       obtain⟨_,v1,v2,v3,v4,hWT,hM3⟩:=hT.out
       have HMT:Hid _:=HMa.out.trans hM3
       have HBT:Hid _:=HBn.out.keepC hM3.chg HF5.out
       have hbM:¬Mst P v1 v2 v3 v4 bx:=λc=>(hM3.new bx c).elim HF5.out (λc=>by have:=HBn.out.lt;omega)
       clear hT hM3 HPt HCx HMa HBn HF5 t0 t1 q0 q1 k6 g1 g0
       go_upto_region 50 with fail
       obtain⟨i0,hi0,hz0,hz1,hz2⟩:=kZ
       have q3:=hWT.c3
       have fz:=hWT.fr 3
       have hP1:=hWT.lt
       have hBz:B<=wT.heap.size:=by have:=hWT.sz;omega
       obtain⟨a4,cp4,e4⟩:=iM hWT.r4
       have HRo:Hid (v4.ownBlock≠some P/\v4.ownBlock≠some bx):=⟨hWT.np.2.2.2,λc=>hbM (.inr (.inr (.inr (.inr c))))⟩
       have hbx:=HBT.out.lt
       have t2:=HBT.out.c2
       have hown:Hid _:=hWT.r4
       have HWT:Hid _:=hWT
       have hNb:bs.length<=5000:=by rw[hWT.nl];exact hGT.m
       clear hWT
       subst e4
       generalize hN:bs.length=N at*
       have HN:Hid _:=hN
       clear hN
       go_region_law
        ((refine step_append_lies _ rfl (.tmp 256) (.tmp 261) 78 rfl B 108 i0 (.agg #[.string ⟨#[]⟩,.bool false,.int .i64 0,.slice none 0 0,.slice none 0 0]) 5 80 underlying78 hi0 hz0 hz1 hz2 rfl xab _ _ (bcF bs) (by simp[Act.eval]) (jK hown.out 1 _) ⟨wT.heap.size,0,none⟩ 1 1 (Bc.cells ⟨ntx,false,(v:Int),none,0,0,none,0,0⟩) (by simp[Act.eval]) rfl (BL _ _ _) (Hc _) xab (by unfold maxLen;omega) xaa yaf _ rfl ?_;intro g9 cap9 w9 hown9 hg9 hat9 hlt9;have s0:=jC hg9 hP1 HRo.out.1 q3;have f0:=far2 hg9 hP1 HRo.out.1 fz;have s1:=jC hg9 hbx HRo.out.2 t2))
       all_goals
        have hat':=hat9.imp id (λe=>Nat.le_of_eq e.symm)
        have kd:=(ez 0 0 wT (.cells #[eE ntx,.bool false,.int .i64 (v:Int),.slice none 0 0,.slice none 0 0] 108)).trans (eK 0 0 _ 1)
        obtain⟨hWn,hMn⟩:=(HWT.out.keep kd).nms_ (b:=⟨ntx,false,(v:Int),none,0,0,none,0,0⟩) (d:=.val ntx v) (g9:=g9) (n9:=N+1) (cap9:=cap9) (gD hg9) (by rw[yak,HN.out];rfl) (by rw[sf,sh];exact hown9) hat' (λ_=>⟨rfl,rfl,rfl⟩)
        have HWn:Hid _:=hWn
        have HMn:Hid _:=(HMT.out.keep kd).trans hMn
        clear hWn hMn hat' kd hown9 hg9 hat9 hlt9 s0 f0 s1
        go_wp2_with fail
        refine yay (v:=.tuple #[]) (by simp[results,results46,go_sem]) rfl ?_
        rw[HRT.out]
        exact⟨rfl,_,_,_,_,_,HWn.out,HMn.out⟩)
def PPz (ps us:List Tok):Prop:=(ps=[]/\us=[])\/PPm ps us
def noC (us:List Tok):List Tok:=us.filter λt=>!(t.sym==[44])
theorem nj (a b:List Tok):noC (a++b)=noC a++noC b:=by unfold noC;rw[List.filter_append]
theorem Er (h:PPm ps us):noC us=ps:=by
 induction h with
 |one h=>
  unfold noC
  rw[List.filter_cons_of_pos (by rw[h];decide)];rfl
 |more _ hc ht ih=>
  rename_i ps ts c t _
  rw[nj,ih]
  unfold noC
  rw[List.filter_cons_of_neg (by rw[hc];decide),List.filter_cons_of_pos (by rw[ht];decide)];rfl
theorem Es (h:PPz ps us):noC us=ps:=by
 rcases h with⟨rfl,rfl⟩|h
 ·rfl
 ·exact Er h
theorem Et (h:PPz ps us):∀t∈us,(t.sym==[41])=false:=by
 rcases h with⟨rfl,rfl⟩|h
 ·intro t ht;cases ht
 ·intro t ht
  rcases Ap h t ht with c|c<;>(rw[c];decide)
theorem uB (seen:List Tok)(p:Tok)(r:List Tok):Bh seen (p::r)=if seen.any (λq=>q.text==p.text)=true then some p.pos else Bh (seen++[p]) r:=rfl
def kL (us:List Tok)(j:Nat):Option Nat:=Bh (noC (us.take j)) (noC (us.drop j))
theorem BN (h:j<us.length):us.take (j+1)=us.take j++[us.getD j Tok.zero]/\us.drop j=us.getD j Tok.zero::us.drop (j+1):=by
 have e:us.getD j Tok.zero=us[j]:=by rw[yah,yal h];rfl
 rw[e]
 exact⟨yat h,List.drop_eq_getElem_cons h⟩
theorem rg {t:Tok}(h:(t.sym==[44])=true):noC [t]=[]:=by unfold noC;rw[List.filter_cons_of_neg (by simp only[h];decide)];rfl
theorem wU {t:Tok}(h:(t.sym==[44])=false):noC [t]=[t]:=by unfold noC;rw[List.filter_cons_of_pos (by simp only[h];rfl)];rfl
theorem vM (h:j<us.length)(c:((us.getD j Tok.zero).sym==[44])=true):noC (us.take (j+1))=noC (us.take j)/\kL us (j+1)=kL us j:=by
 obtain⟨e1,e2⟩:=BN h
 have e3:noC (us.drop j)=noC (us.drop (j+1)):=by
  rw[e2,<-List.singleton_append,nj,rg c,List.nil_append]
 have e4:noC (us.take (j+1))=noC (us.take j):=by rw[e1,nj,rg c,List.append_nil]
 refine⟨e4,?_⟩
 unfold kL
 rw[e4,e3]
theorem BO (h:j<us.length)(c:((us.getD j Tok.zero).sym==[44])=false):noC (us.take (j+1))=noC (us.take j)++[us.getD j Tok.zero]/\((noC (us.take j)).any (λq=>q.text==(us.getD j Tok.zero).text)=true->kL us j=some (us.getD j Tok.zero).pos)/\((noC (us.take j)).any (λq=>q.text==(us.getD j Tok.zero).text)=false->kL us (j+1)=kL us j):=by
 obtain⟨e1,e2⟩:=BN h
 have e3:noC (us.drop j)=us.getD j Tok.zero::noC (us.drop (j+1)):=by
  rw[e2,<-List.singleton_append,nj,wU c];rfl
 have e4:noC (us.take (j+1))=noC (us.take j)++[us.getD j Tok.zero]:=by rw[e1,nj,wU c]
 refine⟨e4,λa=>?_,λa=>?_⟩
 ·unfold kL
  rw[e3,uB,if_pos a]
 ·unfold kL
  rw[e3,uB,if_neg (by rw[a];decide),e4]
