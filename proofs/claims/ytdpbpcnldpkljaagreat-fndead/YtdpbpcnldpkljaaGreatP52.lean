import Derived.Test.YtdpbpcnldpkljaaGreatP51
import Derived.Test.YtdpbpcnldpkljaaGreatP38
namespace Go.Proofs.Z
open Tryz Go.RowKit Flt
set_option maxRecDepth 1000000
set_option maxHeartbeats 0
section
attribute [local go_sem] eD eB eA
theorem uC {f:Nat}{W:World}{P B:Nat}{u1 u2 u3 u4:Value}{bs:List Bc}{st:LSt}{g off m cap:Nat}{k n l rr q:Tok}{e:Ex}{ps us ts:List Tok}(H:TrIn W P B u1 u2 u3 u4 bs st none 0 [] g off m cap (k::n::l::(us++rr::q::ts)))(hk:k.sym=Ao)(hpp:PPz ps us)(hr:rr.sym=[41])(ha:Pr 2 [e] ts){r:Rs LSt}(h:gU f st (.defS n ps e)=some r):
  Calls prog 46 #[.pointer (some ⟨P,0,none⟩),.slice (some ⟨g,off,none⟩) m cap] W (StO W P B u1 u2 u3 u4 r):=by
 have hl:=ii ha
 have hm:(k::n::l::(us++rr::q::ts)).length=m:=H.tk.len
 simp only[yap,yak] at hm
 have hmc:=H.mc
 have m5:=H.m5
 have hbl:bs.length<=100000:=by rw[H.ws.nl];have:=H.gd.m;omega
 have c0:=H.tk.c0 0 xaa
 have n0:=H.tk.c0 1 xaa
 have n1:=H.tk.c1 1 xaa
 have n2:=H.tk.c2 1 xaa
 rw[show(k::n::l::(us++rr::q::ts)).getD 0 Tok.zero=k from rfl] at c0
 rw[show(k::n::l::(us++rr::q::ts)).getD 1 Tok.zero=n from rfl] at n0 n1 n2
 rw[hk,show Ao=[100,101,102] from rfl] at c0
 have HH:Hid _:=H
 have HFar:Hid _:=H.ws.far
 obtain⟨nsy,np,ntx⟩:=n
 simp only[Nat.zero_mul,Nat.add_zero,Nat.one_mul] at c0 n0 n1 n2
 simp only[gU] at h
 have HR:Hid _:=h
 have hmB:us.length+5<m:=xaa
 have hTd:∀j,(k::⟨nsy,np,ntx⟩::l::(us++rr::q::ts)).getD (3+j) Tok.zero=(us++rr::q::ts).getD j Tok.zero:=λj=>by
  rw[Nat.add_comm];rfl
 have HTl:Hid (∀W',Kept 0 0 W W'->∀j,j<us.length->W'.cell? ⟨g,off+(3+j)*3,none⟩=some (eE (us.getD j Tok.zero).sym)/\W'.cell? ⟨g,off+(3+j)*3+1,none⟩=some (.int .i64 ((us.getD j Tok.zero).pos:Int))/\W'.cell? ⟨g,off+(3+j)*3+2,none⟩=some (eE (us.getD j Tok.zero).text)):=λW' kk j hj=>by
  have t:=H.tk.keep kk
  have q0:=t.c0 (3+j) xaa
  have q1:=t.c1 (3+j) xaa
  have q2:=t.c2 (3+j) xaa
  rw[hTd,md _ _ _ _ hj] at q0 q1 q2
  exact⟨q0,q1,q2⟩
 have HTe:Hid (∀W',Kept 0 0 W W'->W'.cell? ⟨g,off+(3+us.length)*3,none⟩=some (eE [41])):=λW' kk=>by
  have q0:=(H.tk.keep kk).c0 (3+us.length) xaa
  rw[hTd,yah,yar yad,Nat.sub_self] at q0
  rw[<-hr]
  exact q0
 have HSy:Hid (∀j,j<us.length->((us.getD j Tok.zero).sym==[41])=false):=λj hj=>Et hpp _ (by
  rw[yah,yal hj]
  exact List.getElem_mem _)
 have HNc:Hid (noC us=ps):=Es hpp
 have HBd:Hid (∀W',Kept 0 0 W W'->TkR (Mst P u1 u2 u3 u4) W' (some ⟨g,off+(3+us.length+2)*3,none⟩) (m-(3+us.length+2)) ts):=λW' kk=>by
  have t:=(H.tk.keep kk).in_ (3+us.length+2) m ts (by
   rw[show 3+us.length+2=(us.length+2)+3 by omega,List.drop_succ_cons,List.drop_succ_cons,List.drop_succ_cons,List.drop_append,List.drop_eq_nil_of_le xaa,show us.length+2-us.length=2 by omega]
   simp only[List.nil_append,List.drop_succ_cons,List.drop_zero]
   rw[yao xaa]) yad
  exact⟨t.len,λ_=>⟨g,_,rfl,H.tg,t⟩⟩
 have HTs:Hid (TsOK ts):=⟨by have:=H.m5;omega,λt ht=>H.ti t (by simp[ht]),λt ht=>H.tn t (by simp[ht])⟩
 have HPr:Hid _:=ha
 have hU:us.length<=5000:=xaa
 clear h H hk hpp hr ha hTd
 generalize hUe:us.length=U at*
 have HU:Hid _:=hUe
 clear hUe hm
 go_enter func46,ntmps46
 go_upto_region 20 with fail
 go_upto_region 21 with fail
 change Code.wp _ _ _ _ (W.alloc (.cells #[eE nsy,.int .i64 (np:Int),eE ntx] 74))
 have HB:Hid (TB (W.alloc (.cells #[eE nsy,.int .i64 (np:Int),eE ntx] 74)) W.heap.size nsy np ntx):=gH W nsy np ntx
 have HK:Hid _:=ez 0 0 W (.cells #[eE nsy,.int .i64 (np:Int),eE ntx] 74)
 generalize W.alloc (.cells #[eE nsy,.int .i64 (np:Int),eE ntx] 74)=W1 at HB HK ⊢
 generalize W.heap.size=bx at HB HFar ⊢
 have HW1:Hid _:=HH.out.ws.keep HK.out
 have b1:=HB.out.c1
 have b2:=HB.out.c2
 clear n0 n1 n2
 cases hfb:ie st.names ntx with
 |some d=>
  have HFd:Hid _:=mK HW1.out hbl hfb
  have HR2:Hid (r=.error (3,np)):=by
   have h:=HR.out
   rw[qb (n:=⟨nsy,np,ntx⟩) hfb] at h
   exact(Option.some.inj h).symm
  have HS3:Hid _:=iL HW1.out.c5 HW1.out.c6 HW1.out.fr 3 np (Mst P u1 u2 u3 u4) (.inl rfl)
  clear hfb HR HH HW1
  go_wp2_with (first
   |(go_at_call 76;refine yai HFd.out ?_;rintro e w2 ⟨k2,rfl,hw⟩;obtain rfl:=hw.symm;have hpos:(0:Int)<=(k2:Int):=by omega)
   |(go_at_call 74;refine yai HS3.out ?_;rintro e w3 ⟨rfl,hbad⟩))
  refine yay (v:=.tuple #[]) (by simp[results,results46,go_sem]) rfl ?_
  rw[HR2.out]
  exact⟨rfl,hbad.c5,hbad.c6,(Mv.of HK.out).bad hbad.chg⟩
 |none=>
  have HFd:Hid _:=mJ HW1.out hbl hfb
  have HFn:Hid _:=hfb
  clear hfb
  go_upto_region 23 with (go_at_call 76;refine yai HFd.out ?_;rintro e w2 ⟨rfl,hw⟩;obtain rfl:=hw.symm)
  clear HFd
  have HR2:Hid (r=Bi st ⟨nsy,np,ntx⟩ ps e):=by
   have h:=HR.out
   rw[qd (n:=⟨nsy,np,ntx⟩) HFn.out] at h
   exact(Option.some.inj h).symm
  have HRd:Hid (r=match kL us 0 with|some p=>.error (3,p)|none=>.ok {st with names:=st.names++[.fn ntx ps e]}):=by
   show _=_
   rw[HR2.out]
   unfold Bi kL
   rw[List.take_zero,List.drop_zero,HNc.out]
   rfl
  clear HR HFn HR2
  go_upto_region 24 with fail
  go_wp2_with fail
  go_loopw [11] (λev W'=>W'=W1/\∃j:Nat,j<=U/\ev=.int .i64 (3+(j:Int))) (λev _=>3+U-(intOf ev).toNat)
  case atStart=>exact⟨rfl,0,Nat.zero_le _,rfl⟩
  case round=>
   obtain⟨rfl,j,hj,rfl⟩:=hrel
   by_cases hlt:j<U
   ·obtain⟨q0,_,_⟩:=HTl.out wr HK.out j hlt
    have hs:=HSy.out j hlt
    generalize (us.getD j Tok.zero).sym=sy at q0 hs
    have hs2:(sy !=[41])=true:=by unfold bne;rw[hs];rfl
    go_wp2_with fail
    go_roundw
    case rel=>exact⟨trivial,j+1,by omega,by go_num⟩
    case measure=>simp[intOf];omega
   ·obtain rfl:j=U:=xaa
    have q0:=HTe.out wr HK.out
    obtain⟨lo,hlo⟩:∃lo,lo=wr.heap.size:=⟨_,rfl⟩
    have HLo:Hid _:=hlo
    clear hlo
    have HR0:Hid (TR wr lo (.slice none 0 0) (noC (us.take 0))):=TR.nil _ _
    have HLs:Hid (wr.heap.size<=lo):=Nat.le_of_eq HLo.out.symm
    have HFl:Hid (∀gp,lo<=gp->¬Mst P u1 u2 u3 u4 gp):=λgp hgp=>HH.out.ws.far2 (yan HK.out.size (yan HLs.out hgp))
    have HKt:Hid (∀(W1 W2:World) (v:Value) (tt:List Tok),Kept 0 0 wr W1->TR W1 lo v tt->Chg (λb=>v.ownBlock=some b) W1 W2->Kept 0 0 wr W2):=λW1 W2 v tt kk ff cc=>wn HLs.out kk ff cc
    go_upto_region 27 with fail
    clear q0
    go_wp2_with fail
    go_loopw [12,13] (λpv iv W'=>∃i:Nat,i<=j/\iv=.int .i64 (3+(i:Int))/\Hid (Kept 0 0 wr W')/\Hid (TR W' lo pv (noC (us.take i)))/\Hid (kL us i=kL us 0)) (λ_ iv _=>3+j-(intOf iv).toNat)
    case atStart=>exact⟨0,Nat.zero_le _,rfl,(show Hid (Kept 0 0 wr wr) from Kept.refl 0 0 wr),HR0,(show Hid (kL us 0=kL us 0) from rfl)⟩
    case round=>
     obtain⟨i,hi,rfl,hK,hT,hDp⟩:=hrel
     clear HR0
     have HKW:Hid _:=HK.out.trans hK.out
     by_cases hlt2:i<j
     ·have HQ:Hid (∀W',Kept 0 0 W W'->_):=λW' kk=>HTl.out W' kk i hlt2
      have HTc:Hid _:=λc=>vM (us:=us) (j:=i) (by rw[HU.out];exact hlt2) c
      have HTt:Hid _:=λc=>BO (us:=us) (j:=i) (by rw[HU.out];exact hlt2) c
      have hLoW:=HLo.out
      generalize us.getD i Tok.zero=tk at HQ HTc HTt
      obtain⟨tsy,tps,ttx⟩:=tk
      simp only at HQ HTc HTt
      obtain⟨q0,_,_⟩:=HQ.out wr HKW.out
      have HLw:Hid (lo<=wr.heap.size):=by show _<=_;rw[HLo.out];exact hK.out.size
      clear hLoW
      cases hc:(tsy==[44])
      ·obtain⟨e4,hA1,hA2⟩:=HTt.out hc
       have HE4:Hid _:=e4
       have HA1:Hid _:=hA1
       have HA2:Hid _:=hA2
       obtain⟨pa,pc,hpv⟩:=l9 hT.out
       subst hpv
       have HSn:Hid ((noC (us.take i)).length<=i):=by
        show _<=_
        unfold noC
        exact yan (List.length_filter_le _ _) (by rw[List.length_take];omega)
       clear e4 hA1 hA2 HTc HTt
       generalize hsn:noC (us.take i)=seen at hT HE4 HA1 HA2 HSn ⊢
       clear hsn
       have hsl:=HSn.out
       go_upto_region 32 with fail
       clear q0
       go_wp2_with fail
       go_loopw [14] (λjv W'=>∃x:Nat,x<=seen.length/\jv=.int .i64 (x:Int)/\Hid (Kept 0 0 wr W')/\Hid (∀y,y<x->((seen.getD y Tok.zero).text==ttx)=false)) (λjv _=>seen.length-(intOf jv).toNat)
       case atStart=>exact⟨0,Nat.zero_le _,rfl,(show Hid (Kept 0 0 wr wr) from Kept.refl 0 0 wr),(show Hid (∀y,y<0->((seen.getD y Tok.zero).text==ttx)=false) from λy hy=>by omega)⟩
       case round=>
        obtain⟨x,hx,rfl,hKx,hAx⟩:=hrel
        have HKx:Hid _:=HKW.out.trans hKx.out
        have HK1:Hid _:=hK.out.trans hKx.out
        obtain⟨q0,q1,q2⟩:=HQ.out wr HKx.out
        have HTx:Hid _:=hT.out.keep hKx.out
        have HLx:Hid (lo<=wr.heap.size):=yan HLw.out hKx.out.size
        by_cases hlt3:x<seen.length
        ·obtain⟨gp,cpp,ep,_,hTk,_⟩:=TR.at_ HTx.out xaa
         cases ep
         have q5:=hTk.c2 x hlt3
         rw[Nat.zero_add] at q5
         generalize hxx:(seen.getD x Tok.zero).text=xx at q5
         have HXe:Hid _:=hxx
         clear hxx hTk
         have HAy:Hid _:=hAx.out
         have hKxx:Hid _:=hKx.out
         go_upto_region 35 with fail
         go_quiet (fail)
         have HK4:Hid _:=HKx.out.trans (eK 0 0 wr nq)
         have HK5:Hid _:=hKxx.out.trans (eK 0 0 wr nq)
         clear q0 q1 q2 q5 HKx hKx HK1 HTx HLx hKxx
         generalize wr.drewN nq=W4 at HK4 HK5 ⊢
         cases hq:(xx==ttx)
         ·have HAn:Hid (∀y,y<x+1->((seen.getD y Tok.zero).text==ttx)=false):=λy hy=>by
           by_cases c:y=x
           ·subst c;rw[HXe.out];exact hq
           ·exact HAy.out y xaa
          go_wp2_with fail
          go_roundw
          case rel=>exact⟨x+1,by omega,by go_num,HK5,HAn⟩
          case measure=>simp[intOf];omega
         ·have HRe:Hid (r=.error (3,tps)):=by
           have ha:seen.any (λq=>q.text==ttx)=true:=by
            rw[List.any_eq_true]
            refine⟨seen.getD x Tok.zero,?_,by rw[HXe.out];exact hq⟩
            rw[yah,yal hlt3]
            exact List.getElem_mem _
           show _=_
           rw[HRd.out,<-hDp.out,HA1.out ha]
          have HS3:Hid _:=iL (HH.out.ws.keep HK4.out).c5 (HH.out.ws.keep HK4.out).c6 (HH.out.ws.keep HK4.out).fr 3 tps (Mst P u1 u2 u3 u4) (.inl rfl)
          obtain⟨_,q1,_⟩:=HQ.out W4 HK4.out
          clear HAy HA1 HA2 HE4
          go_wp2_with (go_at_call 74;refine yai HS3.out ?_;rintro e w5 ⟨rfl,hbad⟩)
          refine yay (v:=.tuple #[]) (by simp[results,results46,go_sem]) rfl ?_
          rw[HRe.out]
          exact⟨rfl,hbad.c5,hbad.c6,(Mv.of HK4.out).bad hbad.chg⟩
        ·obtain rfl:x=seen.length:=xaa
         have HDn:Hid (kL us (i+1)=kL us 0):=by
          show _=_
          rw[HA2.out ?_]
          ·exact hDp.out
          ·rw[List.any_eq_false]
           intro y hy
           obtain⟨z,hz,rfl⟩:=List.getElem_of_mem hy
           have:=hAx.out z hz
           rw[yah,yal hz] at this
           simpa using this
         have hCn:=tR wr ⟨tsy,tps,ttx⟩ 74
         have kA:=ez 0 0 wr (.cells #[eE tsy,.int .i64 (tps:Int),eE ttx] 74)
         have HTB:Hid _:=TR.keep HTx.out kA
         have HKB:Hid _:=HK1.out.trans kA
         clear HTx hAx HA1 HA2 hT hKx HKx HK1
         simp only at hCn
         go_wp2_with (first|(at_builtin;refine lI _ rfl _ _ rfl lo _ seen (by rfl) HTB.out ⟨wr.heap.size,0,none⟩ ⟨tsy,tps,ttx⟩ (by rfl) hCn ?c2 ?c3 ?_)|fail)
         case c2=>omega
         case c3=>have:=HLx.out;simp;omega
         intro g9 cap9 n9 w9 hn9 hR9 hC9 hG9
         have HKn:Hid _:=HKt.out _ _ _ _ HKB.out HTB.out hC9
         have HRn:Hid _:=hR9
         rw[<-HE4.out] at HRn
         clear hR9 hC9 hG9 hn9 kA hCn HTB HKB q0 q1 q2
         go_wp2_with fail
         go_roundw
         case rel=>exact⟨i+1,by omega,by go_num,HKn,HRn,HDn⟩
         case measure=>simp[intOf];omega
      ·obtain⟨e4,e5⟩:=HTc.out hc
       have HTn:Hid _:=hT.out
       rw[<-e4] at HTn
       have HDn:Hid (kL us (i+1)=kL us 0):=by show _=_;rw[e5];exact hDp.out
       clear e4 e5 HTc HTt
       go_wp2_with fail
       go_roundw
       case rel=>exact⟨i+1,by omega,by go_num,hK,HTn,HDn⟩
       case measure=>simp[intOf];omega
     ·obtain rfl:i=j:=xaa
      have HTn:Hid _:=hT.out
      rw[yao (by rw[HU.out];exact yad),HNc.out] at HTn
      have HRT:Hid (r=.ok {st with names:=st.names++[.fn ntx ps e]}):=by
       have hd:kL us i=none:=by
        unfold kL
        rw[List.drop_eq_nil_of_le (by rw[HU.out];exact yad)]
        rfl
       show _=_
       rw[HRd.out,<-hDp.out,hd]
      clear hT hDp HRd HTl HTe HSy HNc HKt
      obtain⟨pa,pc,hpv⟩:=l9 HTn.out
      have HPa:Hid (TkR (Mst P u1 u2 u3 u4) wr pa ps.length ps):=⟨rfl,λh0=>by
       obtain⟨gp,cpp,ep,hgp,hTk,_⟩:=TR.at_ HTn.out h0
       rw[hpv] at ep
       cases ep
       exact⟨gp,0,rfl,HFl.out gp hgp,hTk⟩⟩
      have HBy:Hid _:=HBd.out wr HKW.out
      subst hpv
      have HBT:Hid _:=HB.out.keep hK.out
      have HMT:Hid (Mv (Mst P u1 u2 u3 u4) W (Mst P u1 u2 u3 u4) wr):=Mv.of HKW.out
      have hWT:=HH.out.ws.keep HKW.out
      have hbM:=HFar.out
      have hGT:=HH.out.gd
      have HMc:Hid (m<=cap):=hmc
      clear HTn HFl HBd HB HH HW1 b1 b2 hK HU HLo HLs
      obtain⟨i0,hi0,hz0,hz1,hz2⟩:=kZ
      have q3:=hWT.c3
      have fz:=hWT.fr 3
      have hP1:=hWT.lt
      have hBz:B<=wr.heap.size:=by have:=hWT.sz;omega
      obtain⟨a4,cp4,e4⟩:=iM hWT.r4
      have HRo:Hid (u4.ownBlock≠some P/\u4.ownBlock≠some bx):=⟨hWT.np.2.2.2,λc=>hbM (.inr (.inr (.inr (.inr c))))⟩
      have hbx:=HBT.out.lt
      have t2:=HBT.out.c2
      have hown:Hid _:=hWT.r4
      have HWT:Hid _:=hWT
      have hNb:bs.length<=5000:=by rw[hWT.nl];exact hGT.m
      clear hWT
      subst e4
      generalize hN:bs.length=N at*
      have HN:Hid _:=hN
      clear hN
      generalize hpl:ps.length=np2 at*
      clear hpl
      have hw2:IntKind.i64.wrap (3+(i:Int)+2)=3+(i:Int)+2:=by rw[IntKind.wrap_i64];omega
      have htn:(3+(i:Int)+2).toNat=3+i+2:=xaa
      have hwA:(0:Int)<=3+(i:Int)+2:=xaa
      have hwB:3+(i:Int)+2<=(m:Int):=xaa
      have hcne:¬(cap=3+i+2):=xaa
      go_upto_region 38 with fail
      go_region_law
       ((refine step_append_lies _ rfl (.tmp 179) (.tmp 188) 78 rfl B 108 i0 (.agg #[.string ⟨#[]⟩,.bool false,.int .i64 0,.slice none 0 0,.slice none 0 0]) 5 80 underlying78 hi0 hz0 hz1 hz2 rfl xab _ _ (bcF bs) (by simp[Act.eval]) (jK hown.out 1 _) ⟨wr.heap.size,0,none⟩ 1 1 (Bc.cells ⟨ntx,true,0,pa,np2,pc,some ⟨g,off+(3+i+2)*3,none⟩,m-(3+i+2),cap-(3+i+2)⟩) (by simp[Act.eval]) rfl (BL _ _ _) (Hc _) xab (by unfold maxLen;omega) xaa yaf _ rfl ?_;intro g9 cap9 w9 hown9 hg9 hat9 hlt9;have s0:=jC hg9 hP1 HRo.out.1 q3;have f0:=far2 hg9 hP1 HRo.out.1 fz;have s1:=jC hg9 hbx HRo.out.2 t2))
      all_goals
       have hat':=hat9.imp id (λe=>Nat.le_of_eq e.symm)
       have kd:=(ez 0 0 wr (.cells #[eE ntx,.bool true,.int .i64 0,.slice pa np2 pc,.slice (some ⟨g,off+(3+i+2)*3,none⟩) (m-(3+i+2)) (cap-(3+i+2))] 108)).trans (eK 0 0 _ 1)
       obtain⟨hWn,hMn⟩:=(HWT.out.keep kd).nms_ (b:=⟨ntx,true,0,pa,np2,pc,some ⟨g,off+(3+i+2)*3,none⟩,m-(3+i+2),cap-(3+i+2)⟩) (d:=.fn ntx ps e) (g9:=g9) (n9:=N+1) (cap9:=cap9) (gD hg9) (by rw[yak,HN.out];rfl) (by rw[sf,sh];exact hown9) hat' (λmm=>⟨rfl,rfl,HPa.out.mv ((Mv.of kd).trans mm),ts,HPr.out,⟨HTs.out,by show m-(3+i+2)<=cap-(3+i+2);have:=HMc.out;omega⟩,HBy.out.mv ((Mv.of kd).trans mm)⟩)
       have HWn:Hid _:=hWn
       have HMn:Hid _:=(HMT.out.keep kd).trans hMn
       clear hWn hMn hat' kd hown9 hg9 hat9 hlt9 s0 f0 s1
       go_wp2_with fail
       refine yay (v:=.tuple #[]) (by simp[results,results46,go_sem]) rfl ?_
       rw[HRT.out]
       exact⟨rfl,_,_,_,_,_,HWn.out,HMn.out⟩
end
section
variable {s:Sm}{ts:List Tok}
theorem BP {f:Nat}{W:World}{P B:Nat}{u1 u2 u3 u4:Value}{bs:List Bc}{st:LSt}{g off m cap:Nat}(H:TrIn W P B u1 u2 u3 u4 bs st none 0 [] g off m cap ts)(hp:PSm s ts){r:Rs LSt}(h:gU f st s=some r):
  Calls prog 46 #[.pointer (some ⟨P,0,none⟩),.slice (some ⟨g,off,none⟩) m cap] W (StO W P B u1 u2 u3 u4 r):=by
 cases hp with
 |inS hk _ _ hl=>exact Ep H hk hl h
 |letS hk _ _ ha=>exact BM H hk ha h
 |rep hk hi _ _ ha=>exact BK H hk hi ha h
 |def0 hk _ _ hr _ ha=>exact uC (us:=[]) H hk (.inl ⟨rfl,rfl⟩) hr ha h
 |defS hk _ _ hpp hr _ ha=>exact uC H hk (.inr hpp) hr ha h
 |outS hk ha=>exact BI H hk ha h
theorem IN (hp:PSm s ts)(hi:∀t∈ts,t.sym=gm->Dgs t.text):IK s:=by
 cases hp with
 |inS hk _ _ hl=>exact hi _ xac hl
 |letS hk _ _ ha=>exact iE ha (λt ht=>hi t (by simp[ht])) _ xac
 |rep hk h1 _ _ ha=>exact⟨hi _ xac h1,iE ha (λt ht=>hi t (by simp[ht])) _ xac⟩
 |def0 hk _ _ hr _ ha=>exact iE ha (λt ht=>hi t (by simp[ht])) _ xac
 |defS hk _ _ hpp hr _ ha=>exact iE ha (λt ht=>hi t (by simp[ht])) _ xac
 |outS hk ha=>exact iE ha (λt ht=>hi t (by simp[ht])) _ xac
theorem IP (hp:PSm s ts):0<ts.length:=by cases hp<;>simp
end
section
attribute [local go_sem] eD eB eA
variable {w:World}{a:Option Addr}{n b cap:Nat}{t:List UInt8}
theorem ow (n:Nat):∀(ts:List Tok) (st:List (List UInt8)),ft n ts st=-1\/∃p:Nat,ft n ts st=(p:Int)
 |[],st=>by
  rw[ft]
  split
  ·exact .inl rfl
  ·exact .inr ⟨n,rfl⟩
 |t::ts,st=>by
  rw[ft]
  split
  ·exact .inr ⟨_,rfl⟩
  ·split
   ·exact ow n ts _
   ·exact .inr ⟨_,rfl⟩
abbrev rh:Value:=eR none 0 0 none 0 0 none 0 0
def PaE (w:World)(c:Int)(p:Nat)(e:Ending)(w':World):Prop:=e=.returned (.tuple #[rh,.int .i64 c,.int .i64 (p:Int)])/\Kept 0 0 w w'
theorem BQ (w:World)(a:Option Addr)(cap:Nat):Calls prog 70 #[.slice a 0 cap,.int .i64 0] w λe w'=>e=.returned (.int .i64 0)/\w'=w:=by
 go_enter func70,ntmps70
 go_wp2_with fail
 go_loopw [1] (λiv W'=>W'=w/\iv=.int .i64 0) (λ_ _=>0)
 case atStart=>exact⟨rfl,rfl⟩
 case round=>
  obtain⟨rfl,rfl⟩:=hrel
  go_wp2_with fail
  go_ret
  exact⟨rfl,rfl⟩
theorem vN (w:World)(a:Option Addr)(cap:Nat):Calls prog 43 #[.slice a 0 cap] w λe w'=>e=.returned (.slice none 0 0)/\w'=w:=by
 have HS:Hid _:=BQ w a cap
 go_enter func43,ntmps43
 go_wp2_with (go_at_call 70;refine yai HS.out ?_;rintro e w2 ⟨rfl,hw⟩;obtain rfl:=hw.symm)
 go_loopw [3,4] (λov iv W'=>W'=w/\iv=.int .i64 0/\ov=.slice none 0 0) (λ_ _ _=>0)
 case atStart=>exact⟨rfl,rfl,rfl⟩
 case round=>
  obtain⟨rfl,rfl,rfl⟩:=hrel
  go_wp2_with fail
  go_ret
  exact⟨rfl,rfl⟩
theorem mL (f:TxA w a n t)(hn:n<=100000)(hcp:n<=cap):Calls prog 43 #[.slice a n cap] w λe w'=>∃v,e=.returned v/\TR w' w.heap.size v (iz t)/\Kept 0 0 w w':=by
 rcases Nat.eq_zero_or_pos n with h0|h0
 ·subst h0
  have ht:t=[]:=List.length_eq_zero_iff.1 f.len
  subst ht
  refine yai (vN w a cap) (λe w' h=>?_)
  obtain⟨rfl,rfl⟩:=h
  have e0:iz []=[]:=List.length_eq_zero_iff.1 (Nat.le_zero.1 (mV []))
  rw[e0]
  exact⟨_,rfl,TR.nil _ _,Kept.refl 0 0 _⟩
 ·obtain⟨g,off,rfl,h1⟩:=f.at_ h0
  exact Ak w g off n cap t h1 hn hcp
theorem od {W:World}{o:Nat}{v:Value}(k:Kept 0 0 w W)(hb:w.heap.size<=b):Kept 0 0 w (W.setCell ⟨b,o,none⟩ v):=
 ⟨k.os,k.tape,k.output,by simpa using k.size,λj hj hn=>(Below.heap_setCell W ⟨b,o,none⟩ v j (λe=>by have e2:j=b:=e;omega)).trans (k.block j hj hn)⟩
theorem uD {W:World}(k:Kept 0 0 w W)(hb:w.heap.size<=b)(v1 v2 v3:Value):Kept 0 0 w (((W.setCell ⟨b,0,none⟩ v1).setCell ⟨b,1,none⟩ v2).setCell ⟨b,2,none⟩ v3):=od (od (od k hb) hb) hb
theorem wV (w W':World)(kk:Kept 0 0 (w.alloc (eP none 0 0 none 0 0 none 0 0)) W'):W'.cell? ⟨w.heap.size,0,none⟩=some (.slice none 0 0)/\W'.cell? ⟨w.heap.size,1,none⟩=some (.slice none 0 0)/\W'.cell? ⟨w.heap.size,2,none⟩=some (.slice none 0 0)/\∀o,W'.frozen? ⟨w.heap.size,o,none⟩=false:=by
 exact xcv
theorem TR.slice {W:World}{B:Nat}{v:Value}{ts:List Tok}(f:TR W B v ts):∃aT cT,v=.slice aT ts.length cT/\(0<ts.length->∃g,aT=some ⟨g,0,none⟩/\B<=g/\TkA W g 0 ts.length ts/\ts.length<=cT):=by
 obtain⟨aT,cT,e⟩:=l9 f
 refine⟨aT,cT,e,λh0=>?_⟩
 obtain⟨g,cap,e2,h1,h2,h3⟩:=f.at_ h0
 rw[e] at e2
 cases e2
 exact⟨g,rfl,h1,h2,h3⟩
theorem uE (f:TxA w a n t)(hn:n<=4000)(hcp:n<=cap){p:Nat}(hp:ft n (iz t) [gl]=(p:Int)):Calls prog 21 #[.slice a n cap] w (PaE w 2 p):=by
 have hn':¬(4000:Int)<(n:Int):=xaa
 have kA:=ez 0 0 w (eP none 0 0 none 0 0 none 0 0)
 have HT:Hid _:=mL (f.keep kA) xaa hcp
 have HL:Hid ((iz t).length<=5000):=by show _<=_;have:=mV t;have:=f.len;omega
 have HG:Hid (∀W',Kept 0 0 (w.alloc (eP none 0 0 none 0 0 none 0 0)) W'->W'.cell? ⟨w.heap.size,0,none⟩=some (.slice none 0 0)/\W'.cell? ⟨w.heap.size,1,none⟩=some (.slice none 0 0)/\W'.cell? ⟨w.heap.size,2,none⟩=some (.slice none 0 0)/\∀o,W'.frozen? ⟨w.heap.size,o,none⟩=false):=λW' kk=>by
  exact xcv
 have HK:Hid _:=kA
 have HP:Hid _:=hp
 have hp0:(0:Int)<=(p:Int):=xaa
 clear kA f hp
 go_enter func21,ntmps21
 go_upto_region 1 with fail
 change Code.wp _ _ _ _ (w.alloc (eP none 0 0 none 0 0 none 0 0))
 generalize w.alloc (eP none 0 0 none 0 0 none 0 0)=w1 at HT HG HK ⊢
 generalize hbx:w.heap.size=bx at HG ⊢
 have HBx:Hid _:=hbx
 clear hbx
 go_upto_region 4 with (go_at_call 43;refine yai HT.out ?_;rintro e w2 ⟨v,rfl,hTR,k2⟩)
 obtain⟨aT,cT,rfl,hTA⟩:=TR.slice hTR
 have HWr:Hid _:=sc w2 aT (iz t).length cT n (iz t) rfl HL.out (λh0=>by obtain⟨g,e,_,h2,_⟩:=hTA h0;exact⟨g,0,e,h2⟩)
 rw[HP.out] at HWr
 have HK2:Hid _:=k2
 clear hTA hTR HT k2
 generalize (iz t).length=m at*
 go_upto_region 6 with (go_at_call 44;refine yai HWr.out ?_;rintro e w3 ⟨rfl,k3⟩)
 obtain⟨c0,c1,c2,fr⟩:=HG.out w3 (HK2.out.trans k3)
 have f0:=fr 0
 have f1:=fr 1
 have f2:=fr 2
 obtain⟨y0,y1,y2⟩:=eY w3 bx _ _ _ c0 c1 c2 (.slice none 0 0) (.slice none 0 0) (.slice none 0 0)
 have R:Hid (Kept 0 0 w (((w3.setCell ⟨bx,0,none⟩ (.slice none 0 0)).setCell ⟨bx,1,none⟩ (.slice none 0 0)).setCell ⟨bx,2,none⟩ (.slice none 0 0))):=uD ((HK.out.trans HK2.out).trans k3) (Nat.le_of_eq HBx.out) _ _ _
 clear fr HG HWr HK HK2 k3 HP
 go_wp2_with fail
 refine yay (v:=.tuple #[rh,.int .i64 2,.int .i64 (p:Int)]) (by simp[results,results21,go_sem,y0,y1,y2]) rfl ?_
 exact⟨rfl,R.out⟩
end
section
variable {ss:List Sm}{r:Rs (LSt×Nat)}{ts:List Tok}
theorem Eu (h:PGm ss ts){k:Nat}(hk:(ts.getD k Tok.zero).sym=[59])(hb:∀j,j<k->(ts.getD j Tok.zero).sym≠[59]):∃s ss',ss=s::ss'/\PSm s (ts.take k)/\PGm ss' (ts.drop (k+1)):=by
 cases h with
 |nil=>exact absurd hk (by rw[yah];simp[Tok.zero])
 |cons hs hc hg=>
  rename_i s ss' ts us c
  rcases Nat.lt_trichotomy k ts.length with hlt|rfl|hlt
  ·exfalso
   rw[md _ _ _ _ hlt] at hk
   exact CR hs _ (by rw[yah,yal hlt];exact List.getElem_mem _) hk
  ·refine⟨s,ss',rfl,?_,?_⟩
   ·rw[List.take_append_of_le_length yad,yao yad];exact hs
   ·rw[List.drop_append,List.drop_eq_nil_of_le xaa,show ts.length+1-ts.length=1 by omega]
    exact hg
  ·exfalso
   refine hb ts.length hlt ?_
   rw[yah,yar yad,Nat.sub_self]
   exact hc
theorem Ev (h:PGm ss ts)(hb:∀j,j<ts.length->(ts.getD j Tok.zero).sym≠[59]):ss=[]/\ts=[]:=by
 cases h with
 |nil=>exact⟨rfl,rfl⟩
 |cons hs hc hg=>
  rename_i s ss' ts us c
  exfalso
  refine hb ts.length xac ?_
  rw[yah,yar yad,Nat.sub_self]
  exact hc
def EC {α:Type}(r:Rs α):Prop:=∀c p,r=.error (c,p)->c≠0
theorem EC.ok {α:Type}{x:α}:EC (.ok x:Rs α):=λc p h=>by cases h
theorem EC.err {α:Type}{c:Int}{p:Nat}(h:c≠0):EC (.error (c,p):Rs α):=λc' p' e=>by cases e;exact h
theorem je (st:LSt)(v:Vl)(p:Nat):EC (fI st v p):=by
 unfold fI
 split
 ·exact .err xab
 ·exact .ok
theorem sQ (n:Int)(p:Nat):∀(xs:List Nat) (st:LSt),EC (gS n p st xs)
 |[],st=>by rw[gS];exact .ok
 |i::r,st=>by
  rw[gS]
  split
  ·cases hp:fI st (eI 10 n (i:Int) 0 0) p with
   |error q=>obtain⟨c,p'⟩:=q;exact .err (je _ _ _ c p' hp)
   |ok y=>
    obtain⟨s1,j⟩:=y
    simp only
    cases hf:gS n p s1 r with
    |error q=>obtain⟨c,p'⟩:=q;exact .err (sQ n p r s1 c p' hf)
    |ok y=>exact .ok
  ·cases hf:gS n p st r with
   |error q=>obtain⟨c,p'⟩:=q;exact .err (sQ n p r st c p' hf)
   |ok y=>exact .ok
theorem vO (st:LSt)(xs:List Nat)(p:Nat):EC (iY st xs p):=by
 unfold iY
 split
 ·exact sQ _ _ _ _
 ·exact .err xab
theorem oe (st:LSt)(m:List Vl×Int)(p:Nat):EC (gZ st m p):=by
 unfold gZ
 split
 ·exact .err xab
 ·exact .ok
theorem Hd (st:LSt)(o:Tok)(a b:Nat):EC (m6 st o a b):=by
 unfold m6
 cases hf:iY st [a,b] o.pos with
 |error q=>obtain⟨c,p'⟩:=q;exact .err (vO _ _ _ c p' hf)
 |ok y=>exact je _ _ _
theorem Ew (st:LSt)(k:Tok)(a b:Nat):EC (m7 st k a b):=by
 unfold m7
 cases hf:iY st [a,b] k.pos with
 |error q=>obtain⟨c,p'⟩:=q;exact .err (vO _ _ _ c p' hf)
 |ok y=>
  simp only
  split
  ·exact je _ _ _
  ·cases hp:fI y.1 (eI 4 (eU y.1 (y.2.getD 0 0)) (y.2.getD 0 0:Nat) (y.2.getD 1 0:Nat) 0) k.pos with
   |error q=>obtain⟨c,p'⟩:=q;exact .err (je _ _ _ c p' hp)
   |ok z=>exact je _ _ _
theorem He (st:LSt)(k:Tok)(a b c:Nat):EC (se st k a b c):=by
 unfold se
 cases hf:iY st [a,b,c] k.pos with
 |error q=>obtain⟨c,p'⟩:=q;exact .err (vO _ _ _ c p' hf)
 |ok y=>exact je _ _ _
theorem yG (st:LSt)(k:Tok)(a:Nat)(n:Tok):EC (jS st k a n):=by
 unfold jS
 split
 ·split
  ·exact .err xab
  ·exact je _ _ _
 ·exact xir
theorem yH (st:LSt)(k:Tok)(a:Nat)(i n:Tok):EC (jT st k a i n):=by
 unfold jT
 split
 ·exact .err xab
 ·exact xir
theorem Ey (st:LSt)(k:Tok)(a x:Nat):EC (mq st k a x):=by
 unfold mq
 split
 ·exact .err xab
 ·exact oe _ _ _
theorem Hf (st:LSt)(k:Tok)(a x d:Nat):EC (mD st k a x d):=by
 unfold mD
 split
 ·cases hp:fI st (eI 10 (eU st x) (d:Int) 0 0) k.pos with
  |error q=>obtain⟨c,p'⟩:=q;exact .err (je _ _ _ c p' hp)
  |ok y=>exact oe _ _ _
 ·split
  ·exact .err xab
  ·exact oe _ _ _
theorem qe (st:LSt)(loc:Loc)(t:Tok):EC (fh st loc t):=by
 unfold fh
 split
 ·exact .ok
 ·split
  ·exact .ok
  ·exact .err xab
theorem iG {a:Option (Rs (LSt×Nat))}{p:LSt->Nat->Option (Rs (LSt×Nat))}(h1:∀r,a=some r->EC r)(h2:∀s x,∀r,p s x=some r->EC r):∀r,iK a p=some r->EC r:=λr h=>by
 cases ha:a with
 |none=>rw[ha] at h;cases h
 |some r1=>
  rw[ha] at h
  rcases r1 with q|⟨s,x⟩
  ·cases h;exact λc p e=>h1 _ ha c p (by cases e;rfl)
  ·exact h2 s x r h
theorem wW {p:LSt->Ex->Option (Rs (LSt×Nat))}(hp:∀s e r,p s e=some r->EC r):∀(es:List Ex) (st:LSt) (r:Rs (LSt×List Nat)),fF p st es=some r->EC r
 |[],st,r,h=>by rw[fF] at h;cases h;exact .ok
 |e::es,st,r,h=>by
  rw[fF] at h
  cases h1:p st e with
  |none=>rw[h1] at h;cases h
  |some r1=>
   rw[h1] at h
   rcases r1 with q1|⟨s1,x⟩
   ·cases h;exact λc p e'=>hp _ _ _ h1 c p (by cases e';rfl)
   ·simp only at h
    cases h2:fF p s1 es with
    |none=>rw[h2] at h;cases h
    |some r2=>
     rw[h2] at h
     rcases r2 with q2|⟨s2,ys⟩
     ·cases h;exact λc p e'=>wW hp es s1 _ h2 c p (by cases e';rfl)
     ·cases h;exact .ok
theorem oT:∀(f:Nat) (st:LSt) (loc:Loc) (e:Ex) (r:Rs (LSt×Nat)),eJ f st loc e=some r->EC r
 |0,st,loc,e,r,h=>by rw[eJ] at h;cases h
 |f+1,st,loc,e,r,h=>by
  have ih:∀st loc e r,eJ f st loc e=some r->EC r:=λst loc e r h=>oT f st loc e r h
  have sm:∀{a r:Rs (LSt×Nat)},EC a->some a=some r->EC r:=λh e=>by cases e;exact h
  cases e with
  |num t=>rw[eJ] at h;exact sm (je _ _ _) h
  |name t=>
   rw[eJ] at h
   cases hv:fh st loc t with
   |error q=>rw[hv] at h;obtain⟨c,p⟩:=q;exact sm (.err (qe _ _ _ c p hv)) h
   |ok v=>rw[hv] at h;exact sm .ok h
  |neg o a=>rw[eJ] at h;exact iG (λr h=>ih _ _ _ r h) (λs x r h=>sm (je _ _ _) h) r h
  |bin o a b=>rw[eJ] at h;exact iG (λr h=>ih _ _ _ r h) (λs x r h=>iG (λr h=>ih _ _ _ r h) (λs x r h=>sm (Hd _ _ _ _) h) r h) r h
  |call t es=>
   rw[eJ] at h
   split at h
   ·split at h
    ·split at h
     ·cases h
     ·rename_i q ha
      exact λc p e'=>wW (λs e r h=>ih s loc e r h) es st _ ha c p (by cases h;cases e';rfl)
     ·split at h
      ·exact sm (.err xab) h
      ·exact ih _ _ _ r h
    ·exact sm (.err xab) h
   ·exact sm (.err xab) h
  |key1 k a=>
   rw[eJ] at h
   refine iG (λr h=>ih _ _ _ r h) (λs x r h=>sm ?_ h) r h
   split
   ·exact je _ _ _
   ·exact je _ _ _
  |key2 k a b=>rw[eJ] at h;exact iG (λr h=>ih _ _ _ r h) (λs x r h=>iG (λr h=>ih _ _ _ r h) (λs x r h=>sm (Ew _ _ _ _) h) r h) r h
  |key3 k a b c=>rw[eJ] at h;exact iG (λr h=>ih _ _ _ r h) (λs x r h=>iG (λr h=>ih _ _ _ r h) (λs x r h=>iG (λr h=>ih _ _ _ r h) (λs x r h=>sm (He _ _ _ _ _) h) r h) r h) r h
  |keyN k a n=>rw[eJ] at h;exact iG (λr h=>ih _ _ _ r h) (λs x r h=>sm (yG _ _ _ _) h) r h
  |put k a i n=>rw[eJ] at h;exact iG (λr h=>ih _ _ _ r h) (λs x r h=>sm (yH _ _ _ _ _) h) r h
  |grad k a x=>
   rw[eJ] at h
   cases hv:fh st loc x with
   |error q=>rw[hv] at h;obtain⟨c,p⟩:=q;exact sm (.err (qe _ _ _ c p hv)) h
   |ok v=>rw[hv] at h;exact iG (λr h=>ih _ _ _ r h) (λs x r h=>sm (Ey _ _ _ _) h) r h
  |jvp k a x d=>
   rw[eJ] at h
   cases hv:fh st loc x with
   |error q=>rw[hv] at h;obtain⟨c,p⟩:=q;exact sm (.err (qe _ _ _ c p hv)) h
   |ok v=>rw[hv] at h;exact iG (λr h=>ih _ _ _ r h) (λs x r h=>iG (λr h=>ih _ _ _ r h) (λs x r h=>sm (Hf _ _ _ _ _) h) r h) r h
theorem BS {f:Nat}{e:Ex}{i:Nat}{s:List UInt8}:∀(k:Nat) (st:LSt) (r:Rs LSt),lr f e i s k st=some r->EC r
 |0,st,r,h=>by rw[lr] at h;cases h;exact .ok
 |k+1,st,r,h=>by
  rw[lr] at h
  split at h
  ·cases h
  ·rename_i q he
   cases h
   exact λc p e'=>oT _ _ _ _ _ he c p (by cases e';rfl)
  ·exact BS k _ r h
theorem wX {s:List UInt8}(h:EC r):EC (nh s r):=by
 exact xjv
theorem Ez (h:EC r):EC (DU r):=by
 exact xjv
theorem EA {f:Nat}{st:LSt}{s:Sm}{r:Rs LSt}(h:gU f st s=some r):EC r:=by
 have sm:∀{a r:Rs LSt},EC a->some a=some r->EC r:=λh e=>by cases e;exact h
 cases s with
 |outS k e=>
  simp only[gU] at h
  split at h
  ·exact sm (.err xab) h
  ·cases he:eJ f st [] e with
   |none=>rw[he] at h;cases h
   |some r1=>rw[he] at h;exact sm (Ez (oT _ _ _ _ _ he)) h
 |rep i n e=>
  simp only[gU] at h
  split at h
  ·split at h
   ·exact sm (.err xab) h
   ·exact BS _ _ r h
  ·exact sm (.err xab) h
 |defS n ps e=>
  simp only[gU,mh] at h
  split at h
  ·exact sm (.err xab) h
  ·refine sm ?_ h
   unfold Bi
   split
   ·exact .err xab
   ·exact .ok
 |letS n e=>
  simp only[gU,mh] at h
  split at h
  ·exact sm (.err xab) h
  ·cases he:eJ f st [] e with
   |none=>rw[he] at h;cases h
   |some r1=>rw[he] at h;exact sm (wX (oT _ _ _ _ _ he)) h
 |inS n l=>
  simp only[gU,mh] at h
  split at h
  ·exact sm (.err xab) h
  ·refine sm ?_ h
   unfold inR
   split
   ·exact .err xab
   ·split
    ·exact .err xab
    ·exact wX (je _ _ _)
