import Derived.Test.YtdpbpcnldpkljaaGreatP49
namespace Go.Proofs.Z
open Tryz
set_option maxRecDepth 1000000
set_option maxHeartbeats 0
open Go.RowKit Flt
attribute [local go_sem] eD eB eA
variable {f P B g off m cap:Nat}{u1 u2 u3 u4:Value}{st:LSt}{s:List UInt8}{bs:List Bc}{n k q:Tok}{ts:List Tok}
theorem Ha {ns:List Bdg}{k:Nat}(hk:k<ns.length)(h1:(ns.getD k (.val [] 0)).nm=s)(h2:∀j,j<k->(ns.getD j (.val [] 0)).nm≠s):DR ns s=k:=by
 unfold DR
 rw[List.findIdx_eq hk]
 have e:∀j (hj:j<ns.length),ns.getD j (.val [] 0)=ns[j]:=λj hj=>by rw[yah,yal hj];rfl
 refine⟨by rw[<-e k hk,h1];simp,λj hj=>?_⟩
 have:=h2 j hj
 rw[e j xaa] at this
 exact yaw this
theorem Em (g:Gd st)(i:Nat)(s:List UInt8)(v:Nat):Gd (st.setV i s v):=⟨g.n,g.c,g.ok,g.k,g.i,g.o,by show(st.names.set i _).length<=5000;rw[List.length_set];exact g.m⟩
theorem Eo (h:NmOK st)(i:Nat)(s:List UInt8){v:Nat}(hv:v<st.vs.length):NmOK (st.setV i s v):=λb hb=>by
 have hb':b∈st.names.set i (.val s v):=hb
 rcases List.mem_or_eq_of_mem_set hb' with c|c
 ·exact h b c
 ·subst c;exact hv
theorem BJ (M:Nat->Prop)(W:World):LcR M W none 0 []:=⟨rfl,λh=>by omega⟩
theorem TrIn.later {W:World}{aL:Option Addr}{nL:Nat}{loc:Loc}(h:TrIn W P B u1 u2 u3 u4 bs st aL nL loc g off m cap ts){W':World}{v1 v2 v3 v4:Value}{bs':List Bc}{st':LSt}(hw:WS W' P B v1 v2 v3 v4 bs' st')(gd:Gd st')(nm:NmOK st')(k:Mv (Mst P u1 u2 u3 u4) W (Mst P v1 v2 v3 v4) W')(i:Nat)(hi:i<m)(us:List Tok)(hu:us=ts.drop i):TrIn W' P B v1 v2 v3 v4 bs' st' none 0 [] g (off+i*3) (m-i) (cap-i) us where
 ws:=hw
 gd:=gd
 nm:=nm
 lc:=BJ _ _
 ln:=Nat.zero_le _
 lo:=λb hb=>by cases hb
 tk:=(h.tk.keepC k.chg h.tg).in_ i m us (by rw[hu,yao (by rw[List.length_drop,h.tk.len];exact yad)]) yad
 tg:=λc=>(k.new g c).elim h.tg (λc=>by have:=h.tk.lt;omega)
 m5:=by have:=h.m5;omega
 mc:=by have:=h.mc;omega
 ti:=λt ht=>h.ti t (by subst hu;exact List.mem_of_mem_drop ht)
 tn:=λt ht=>h.tn t (by subst hu;exact List.mem_of_mem_drop ht)
theorem BK {W:World}{i:Tok}{e:Ex}(H:TrIn W P B u1 u2 u3 u4 bs st none 0 [] g off m cap (k::i::n::q::ts))(hk:k.sym=CP)(hi:i.sym=gm)(ha:Pr 2 [e] ts){r:Rs LSt}(h:gU f st (.rep i n e)=some r):
  Calls prog 46 #[.pointer (some ⟨P,0,none⟩),.slice (some ⟨g,off,none⟩) m cap] W (StO W P B u1 u2 u3 u4 r):=by
 have hm:(k::i::n::q::ts).length=m:=H.tk.len
 simp only[yap] at hm
 have hl:=ii ha
 have hmc:=H.mc
 have m5:=H.m5
 have hbl:bs.length<=100000:=by rw[H.ws.nl];have:=H.gd.m;omega
 have c0:=H.tk.c0 0 xaa
 have i0:=H.tk.c0 1 xaa
 have i1:=H.tk.c1 1 xaa
 have i2:=H.tk.c2 1 xaa
 have n1:=H.tk.c1 2 xaa
 have n2:=H.tk.c2 2 xaa
 rw[show(k::i::n::q::ts).getD 0 Tok.zero=k from rfl] at c0
 rw[show(k::i::n::q::ts).getD 1 Tok.zero=i from rfl] at i0 i1 i2
 rw[show(k::i::n::q::ts).getD 2 Tok.zero=n from rfl] at n1 n2
 rw[hk] at c0
 rw[show CP=[114,101,112,101,97,116] from rfl] at c0
 have hD:Dgs i.text:=H.ti i xac hi
 have HI:Hid (∀W',_):=λW'=>tT i hD W'
 have hiB:=mE hD yad
 rw[yao yad] at hiB
 have HH:Hid _:=H
 have ea:EOK e:=iE ha (λt ht=>H.ti t (by simp[ht])) e xac
 have HPr:Hid _:=ha
 have HEa:Hid _:=ea
 have HFd:Hid _:=nQ H.ws.c3 H.ws.r4 hbl n.text
 have p3:=H.ws.c3
 have HNA:Hid (0<bs.length->_):=jU H.ws.r4
 have HSt:Hid (∀W',Kept 0 0 W W'->∀c p,_):=λW' kk c p=>iL (H.ws.keep kk).c5 (H.ws.keep kk).c6 (H.ws.keep kk).fr c p (Mst P u1 u2 u3 u4) (.inl rfl)
 have HCi:Hid (∀W',Kept 0 0 W W'->W'.cell? ⟨g,off+3+1,none⟩=some (.int .i64 (i.pos:Int))):=λW' kk=>(kk.cell (p:=⟨g,off+3+1,none⟩) H.tk.lt xaa).trans i1
 obtain⟨a4,cp4,hu4⟩:=iM H.ws.r4
 simp only[Nat.zero_mul,Nat.add_zero,Nat.one_mul] at c0 i0 i1 i2 n1 n2
 simp only[gU] at h
 have HR:Hid _:=h
 clear h H ha ea hD hi hk
 obtain⟨isy,ip,itx⟩:=i
 obtain⟨nsy,np,ntx⟩:=n
 unfold ik at HI
 simp only at*
 subst hu4
 generalize hIv:gz itx=K at*
 clear hIv
 go_enter func46,ntmps46
 go_upto_region 9 with (go_at_call 76;refine yai HFd.out ?_;rintro e w2 ⟨ix,rfl,hF,hw⟩;obtain rfl:=hw.symm)
 clear HFd
 rcases hF with⟨k2,hk2,rfl,hn1,hn2⟩|⟨rfl,hn⟩
 ·have HFB:Hid _:=lK HH.out.ws hk2 hn1 hn2
  have HBO:Hid _:=HH.out.ws.nb k2 hk2
  have HIx:Hid (DR st.names ntx=k2):=Ha (by rw[<-HH.out.ws.nl];exact hk2) (by rw[<-qS (HH.out.ws.nb k2 hk2)];exact hn1) (λj hj=>by rw[<-qS (HH.out.ws.nb j xaa)];exact hn2 j hj)
  obtain⟨g4,cp,e4,_,_,_,h6⟩:=HNA.out xaa
  cases e4
  obtain⟨_,d1,_,_,_⟩:=h6 k2 hk2
  have hneg:¬((k2:Int)<0):=xaa
  have HD:Hid _:=(show st.names.getD k2 (.val [] 0)=st.names.getD k2 (.val [] 0) from rfl)
  generalize hdd:st.names.getD k2 (.val [] 0)=dd at HFB HBO
  have HDD:Hid _:=hdd
  clear hdd HD
  generalize hbb:bs.getD k2 Bc.zero=b at d1 HBO
  clear hbb
  have HK2:Hid _:=hk2
  cases dd with
  |fn nm ps body=>
   have hfn:b.fn=true:=HBO.out.2.1
   rw[hfn] at d1
   have HR2:Hid (r=.error (3,np)):=by
    have h:=HR.out
    rw[HFB.out] at h
    exact(Option.some.inj h).symm
   have HS3:Hid _:=HSt.out W (Kept.refl 0 0 W) 3 np
   clear hn1 hn2 h6 HBO HNA HSt
   generalize bs.length=nn at*
   go_wp2_with (go_at_call 74;refine yai HS3.out ?_;rintro e w3 ⟨rfl,hbad⟩)
   refine yay (v:=.tuple #[]) (by simp[results,results46,go_sem]) rfl ?_
   rw[HR2.out]
   exact⟨rfl,hbad.c5,hbad.c6,hbad.chg⟩
  |val nm v0=>
   have hfn:b.fn=false:=HBO.out.2.1
   have HNm:Hid (nm=ntx):=by
    have:=qS (HH.out.ws.nb k2 hk2)
    rw[HDD.out] at this
    exact this.symm.trans hn1
   rw[hfn] at d1
   clear hn1 hn2 h6 HBO HNA
   have hbn:k2<bs.length:=hk2
   generalize hnn:bs.length=nn at p3 hk2 hbl
   go_upto_region 12 with (go_at_call 77;refine yai (HI.out _) ?_;rintro e w3 ⟨rfl,k3⟩)
   have HK3:Hid _:=k3
   clear k3 c0 i0 i1 i2 n1 n2 d1 p3 HI
   by_cases hK:100<K
   ·have HR2:Hid (r=.error (5,ip)):=by
     have h:=HR.out
     rw[HFB.out] at h
     simp only[if_pos hK] at h
     exact(Option.some.inj h).symm
    have HS5:Hid _:=HSt.out w3 HK3.out 5 ip
    have i1:=HCi.out w3 HK3.out
    clear HSt HCi
    go_wp2_with (go_at_call 74;refine yai HS5.out ?_;rintro e w4 ⟨rfl,hbad⟩)
    refine yay (v:=.tuple #[]) (by simp[results,results46,go_sem]) rfl ?_
    rw[HR2.out]
    exact⟨rfl,hbad.c5,hbad.c6,(Mv.of HK3.out).bad hbad.chg⟩
   ·obtain⟨N,rfl⟩:∃N:Nat,K=(N:Int):=⟨K.toNat,by omega⟩
    have HR2:Hid (lr f e k2 ntx N st=some r):=by
     have h:=HR.out
     rw[HFB.out] at h
     simp only[if_neg hK] at h
     rw[HIx.out,Int.toNat_natCast] at h
     exact h
    have HD0:Hid (st.names.getD k2 (.val [] 0)=.val ntx v0):=by show _=_;rw[HDD.out,HNm.out]
    have HTr:Hid (∀W' bs' z1 z2 z3 z4 s,WS W' P B z1 z2 z3 z4 bs' s->Gd s->NmOK s->Mv (Mst P u1 u2 u3 (.slice (some ⟨g4,0,none⟩) bs.length cp4)) W (Mst P z1 z2 z3 z4) W'->∀r1,eJ f s [] e=some r1->RsG s r1/\Calls prog 75 #[.pointer (some ⟨P,0,none⟩),.slice none 0 0,.slice (some ⟨g,off+4*3,none⟩) (m-4) (cap-4)] W' (TrO W' P B z1 z2 z3 z4 bs' r1)):=λW' bs' z1 z2 z3 z4 s hw hg hnm hM r1 er=>⟨fW f s [] e hg hnm (λb hb=>by cases hb) HEa.out r1 er,trc f W' P B z1 z2 z3 z4 bs' s none 0 0 [] g _ _ _ ts (HH.out.later hw hg hnm hM 4 xaa ts rfl) 2 e HPr.out yad r1 er⟩
    have HW3:Hid _:=HH.out.ws.keep HK3.out
    have HGd0:Hid _:=HH.out.gd
    have HNm0:Hid _:=HH.out.nm
    clear HR HIx HFB HDD HSt HCi HNm HPr HEa HH
    go_wp2_with fail
    go_loopw [8] (λnv W'=>∃(j:Nat) (s:LSt) (bs':List Bc) (z1 z2 z3 z4:Value) (vj:Nat),j<=N/\nv=.int .i64 j/\Hid (WS W' P B z1 z2 z3 z4 bs' s)/\Hid (Mv (Mst P u1 u2 u3 (.slice (some ⟨g4,0,none⟩) bs.length cp4)) W (Mst P z1 z2 z3 z4) W')/\Hid (lr f e k2 ntx (N-j) s=some r)/\Hid (Gd s)/\Hid (NmOK s)/\Hid (bs'.length=bs.length)/\Hid (s.names.getD k2 (.val [] 0)=.val ntx vj)) (λnv _=>N-(intOf nv).toNat)
    case atStart=>exact⟨0,st,bs,_,_,_,_,v0,Nat.zero_le _,rfl,HW3,(show Hid _ from Mv.of HK3.out),HR2,HGd0,HNm0,(show Hid (bs.length=bs.length) from rfl),HD0⟩
    case round=>
     obtain⟨j,s,bs',z1,z2,z3,z4,vj,hj,rfl,hWs,hMs,hRs,hGs,hNs,hBs,hDs⟩:=hrel
     clear HR2 HD0 HW3 HGd0 HNm0
     by_cases hlt:j<N
     ·cases her:eJ f s [] e with
      |none=>
       exfalso
       have h:=hRs.out
       rw[show N-j=(N-j-1)+1 by omega,lr,her] at h
       cases h
      |some r1=>
       obtain⟨hG1,hC1⟩:=HTr.out wr bs' z1 z2 z3 z4 s hWs.out hGs.out hNs.out hMs.out r1 her
       have HG1:Hid _:=hG1
       have HC1:Hid _:=hC1
       have HRn:Hid _:=hRs.out
       rw[show N-j=(N-j-1)+1 by omega,lr,her] at HRn
       clear hG1 hC1 her hRs
       rcases r1 with⟨c,p⟩|⟨s1,v⟩
       ·have HR2:Hid (r=.error (c,p)):=(Option.some.inj HRn.out).symm
        go_wp2_with (go_at_call 75;refine yai HC1.out ?_;rintro e w4 ⟨rfl,hT⟩)
        refine yay (v:=.tuple #[]) (by simp[results,results46,go_sem]) rfl ?_
        rw[HR2.out]
        exact⟨rfl,hT.1,hT.2.1,hMs.out.bad hT.2.2⟩
       ·obtain⟨w1,hv⟩:=HG1.out s1 v rfl
        have hv0:¬((v:Int)<0):=xaa
        have HD1:Hid (s1.names.getD k2 (.val [] 0)=.val ntx vj):=by show _=_;rw[w1.m];exact hDs.out
        have HG2:Hid _:=Em w1.g k2 ntx v
        have HN2:Hid _:=Eo (NmOK.gw hNs.out w1) k2 ntx hv
        have HRr:Hid (lr f e k2 ntx (N-(j+1)) (s1.setV k2 ntx v)=some r):=by show _=_;rw[show N-(j+1)=N-j-1 by omega];exact HRn.out
        go_upto_region 19 with (go_at_call 75;refine yai HC1.out ?_;rintro e w4 ⟨rfl,y1,y2,y3,y4,hW4,hM4⟩)
        obtain⟨g5,cp5,e5,hg5,fz,hWn,hMn⟩:=hW4.setv (i:=k2) (v:=v) (by rw[hBs.out];exact hbn) HD1.out
        have q3:=hW4.c3
        rw[e5,hBs.out,hnn] at q3
        have q4:=(jU hW4.r4 (by rw[hBs.out];omega))
        obtain⟨g6,cp6,e6,_,_,_,h6⟩:=q4
        have q5:=(h6 k2 (by rw[hBs.out];exact hbn)).2.2.1
        rw[e5] at e6
        cases e6
        have HWn:Hid _:=hWn
        have HMn:Hid _:=(hMs.out.trans hM4).trans hMn
        have HB2:Hid ((bs'.set k2 {bs'.getD k2 Bc.zero with val:=(v:Int)}).length=bs.length):=by show _=_;rw[List.length_set];exact hBs.out
        have HDn:Hid ((s1.setV k2 ntx v).names.getD k2 (.val [] 0)=.val ntx v):=by
         show(s1.names.set k2 _).getD k2 _=_
         rw[oc _ _ _ _ (by rw[<-hW4.nl,hBs.out];exact hbn)]
        clear h6 hWn hMn hW4 hM4 hMs hWs HC1 HG1 HRn hGs hNs hDs w1 hg5
        go_wp2_with fail
        go_roundw
        case rel=>exact⟨j+1,s1.setV k2 ntx v,_,y1,y2,y3,y4,v,by omega,by go_num,HWn,HMn,HRr,HG2,HN2,HB2,HDn⟩
        case measure=>simp[intOf];omega
     ·obtain rfl:j=N:=xaa
      have HR2:Hid (r=.ok s):=by
       have h:=hRs.out
       rw[Nat.sub_self,lr] at h
       exact(Option.some.inj h).symm
      clear hRs HTr
      go_wp2_with fail
      refine yay (v:=.tuple #[]) (by simp[results,results46,go_sem]) rfl ?_
      rw[HR2.out]
      exact⟨rfl,bs',z1,z2,z3,z4,hWs.out,hMs.out⟩
 ·have HR2:Hid (r=.error (3,np)):=by
   have h:=HR.out
   rw[l6 HH.out.ws hn] at h
   exact(Option.some.inj h).symm
  have HS3:Hid _:=HSt.out W (Kept.refl 0 0 W) 3 np
  clear hn HNA HSt p3
  go_wp2_with (go_at_call 74;refine yai HS3.out ?_;rintro e w3 ⟨rfl,hbad⟩)
  refine yay (v:=.tuple #[]) (by simp[results,results46,go_sem]) rfl ?_
  rw[HR2.out]
  exact⟨rfl,hbad.c5,hbad.c6,hbad.chg⟩
theorem Hb:(prog.info? 108).map (λi=>(i.zero,i.size,i.bytes))=some (some (.agg #[.string ⟨#[]⟩,.bool false,.int .i64 0,.slice none 0 0,.slice none 0 0]),5,80):=by kernel_rfl
theorem kZ:∃i0,prog.info? 108=some i0/\i0.zero=some (.agg #[.string ⟨#[]⟩,.bool false,.int .i64 0,.slice none 0 0,.slice none 0 0])/\i0.size=5/\i0.bytes=80:=by
 have h:=Hb
 cases e:prog.info? 108 with
 |none=>rw[e] at h;cases h
 |some i0=>
  rw[e] at h
  simp only[Option.map_some,Option.some.injEq,Prod.mk.injEq] at h
  exact⟨i0,rfl,h.1,h.2.1,h.2.2⟩
theorem BL (w:World)(b:Bc)(m:Nat):∀j u,b.cells[j]? =some u->((w.alloc (.cells #[eE b.nm,.bool b.fn,.int .i64 b.val,.slice b.pa b.pn b.pc,.slice b.ba b.bn b.bc] 108)).drewN m).cell? ((⟨w.heap.size,0,none⟩:Addr).add j)=some u:=λj u hu=>
 World.news_of_block (w:=w.alloc (.cells #[eE b.nm,.bool b.fn,.int .i64 b.val,.slice b.pa b.pn b.pc,.slice b.ba b.bn b.bc] 108)) (t:=108) (fr:=(0,0)) (cs:=#[eE b.nm,.bool b.fn,.int .i64 b.val,.slice b.pa b.pn b.pc,.slice b.ba b.bn b.bc]) (sV _ _) j u hu
theorem Hc (b:Bc):∀u∈b.cells,u.oneCell'=true:=λu hu=>by
 simp only[Bc.cells,List.mem_cons,List.not_mem_nil,or_false] at hu
 rcases hu with rfl|rfl|rfl|rfl|rfl<;>rfl
theorem mJ {W:World}(h:WS W P B u1 u2 u3 u4 bs st)(hl:bs.length<=100000)(hf:ie st.names s=none):Calls prog 76 #[.pointer (some ⟨P,0,none⟩),eE s] W λe W'=>e=.returned (.int .i64 (-1))/\W'=W:=
 yai (nQ h.c3 h.r4 hl s) (λe W' ⟨r,e1,hF,hw⟩=>by
  rcases hF with⟨k2,hk2,rfl,hn1,hn2⟩|⟨rfl,hn⟩
  ·rw[lK h hk2 hn1 hn2] at hf;cases hf
  ·exact⟨e1,hw⟩)
theorem mK {W:World}(h:WS W P B u1 u2 u3 u4 bs st)(hl:bs.length<=100000){d:Bdg}(hf:ie st.names s=some d):Calls prog 76 #[.pointer (some ⟨P,0,none⟩),eE s] W λe W'=>∃k:Nat,e=.returned (.int .i64 (k:Int))/\W'=W:=
 yai (nQ h.c3 h.r4 hl s) (λe W' ⟨r,e1,hF,hw⟩=>by
  rcases hF with⟨k2,hk2,rfl,hn1,hn2⟩|⟨rfl,hn⟩
  ·exact⟨k2,e1,hw⟩
  ·rw[l6 h hn] at hf;cases hf)
theorem qb {r:Option (Rs LSt)}{d:Bdg}(h:ie st.names n.text=some d):mh st n r=some (.error (3,n.pos)):=by unfold mh;rw[h]
theorem qd {r:Option (Rs LSt)}(h:ie st.names n.text=none):mh st n r=r:=by unfold mh;rw[h]
theorem BM {W:World}{e:Ex}(H:TrIn W P B u1 u2 u3 u4 bs st none 0 [] g off m cap (k::n::q::ts))(hk:k.sym=CN)(ha:Pr 2 [e] ts){r:Rs LSt}(h:gU f st (.letS n e)=some r):
  Calls prog 46 #[.pointer (some ⟨P,0,none⟩),.slice (some ⟨g,off,none⟩) m cap] W (StO W P B u1 u2 u3 u4 r):=by
 have hl:=ii ha
 have ea:EOK e:=iE ha (λt ht=>H.ti t (by simp[ht])) e xac
 have hm:(k::n::q::ts).length=m:=H.tk.len
 simp only[yap] at hm
 have hmc:=H.mc
 have m5:=H.m5
 have hbl:bs.length<=100000:=by rw[H.ws.nl];have:=H.gd.m;omega
 have c0:=H.tk.c0 0 xaa
 have n0:=H.tk.c0 1 xaa
 have n1:=H.tk.c1 1 xaa
 have n2:=H.tk.c2 1 xaa
 rw[show(k::n::q::ts).getD 0 Tok.zero=k from rfl] at c0
 rw[show(k::n::q::ts).getD 1 Tok.zero=n from rfl] at n0 n1 n2
 rw[hk,show CN=[108,101,116] from rfl] at c0
 have HH:Hid _:=H
 have HFar:Hid _:=H.ws.far
 obtain⟨nsy,np,ntx⟩:=n
 simp only[Nat.zero_mul,Nat.add_zero,Nat.one_mul] at c0 n0 n1 n2
 simp only[gU] at h
 have HR:Hid _:=h
 have HPr:Hid _:=ha
 have HEa:Hid _:=ea
 clear h H ha ea hk
 go_enter func46,ntmps46
 go_upto_region 20 with fail
 go_upto_region 21 with fail
 change Code.wp _ _ _ _ (W.alloc (.cells #[eE nsy,.int .i64 (np:Int),eE ntx] 74))
 have HB:Hid (TB (W.alloc (.cells #[eE nsy,.int .i64 (np:Int),eE ntx] 74)) W.heap.size nsy np ntx):=gH W nsy np ntx
 have HK:Hid _:=ez 0 0 W (.cells #[eE nsy,.int .i64 (np:Int),eE ntx] 74)
 generalize W.alloc (.cells #[eE nsy,.int .i64 (np:Int),eE ntx] 74)=W1 at HB HK ⊢
 generalize W.heap.size=bx at HB HFar ⊢
 have HW1:Hid _:=HH.out.ws.keep HK.out
 have b1:=HB.out.c1
 have b2:=HB.out.c2
 clear n0 n1 n2
 cases hfb:ie st.names ntx with
 |some d=>
  have HFd:Hid _:=mK HW1.out hbl hfb
  have HR2:Hid (r=.error (3,np)):=by
   have h:=HR.out
   rw[qb (n:=⟨nsy,np,ntx⟩) hfb] at h
   exact(Option.some.inj h).symm
  have HS3:Hid _:=iL HW1.out.c5 HW1.out.c6 HW1.out.fr 3 np (Mst P u1 u2 u3 u4) (.inl rfl)
  clear hfb HR HH HW1
  go_wp2_with (first
   |(go_at_call 76;refine yai HFd.out ?_;rintro e w2 ⟨k2,rfl,hw⟩;obtain rfl:=hw.symm;have hpos:(0:Int)<=(k2:Int):=by omega)
   |(go_at_call 74;refine yai HS3.out ?_;rintro e w3 ⟨rfl,hbad⟩))
  refine yay (v:=.tuple #[]) (by simp[results,results46,go_sem]) rfl ?_
  rw[HR2.out]
  exact⟨rfl,hbad.c5,hbad.c6,(Mv.of HK.out).bad hbad.chg⟩
 |none=>
  have HFd:Hid _:=mJ HW1.out hbl hfb
  have HFn:Hid _:=hfb
  clear hfb
  go_upto_region 23 with (go_at_call 76;refine yai HFd.out ?_;rintro e w2 ⟨rfl,hw⟩;obtain rfl:=hw.symm)
  clear HFd
  have HR2:Hid ((eJ f st [] e).map (nh ntx)=some r):=by
   have h:=HR.out
   rw[qd (n:=⟨nsy,np,ntx⟩) HFn.out] at h
   exact h
  cases her:eJ f st [] e with
  |none=>exfalso;have h:=HR2.out;rw[her] at h;cases h
  |some r1=>
   have HRb:Hid (r=nh ntx r1):=by
    have h:=HR2.out
    rw[her] at h
    exact(Option.some.inj h).symm
   have hG1:=fW f st [] e HH.out.gd HH.out.nm (λb hb=>by cases hb) HEa.out r1 her
   have HG1:Hid _:=hG1
   have HC1:Hid _:=trc f W1 P B u1 u2 u3 u4 bs st none 0 0 [] g _ _ _ ts (HH.out.later HW1.out HH.out.gd HH.out.nm (Mv.of HK.out) 3 xaa ts rfl) 2 e HPr.out yad r1 her
   clear hG1 her HR2 HR HFn HPr HEa
   rcases r1 with⟨c,p⟩|⟨s,v⟩
   ·go_wp2_with (go_at_call 75;refine yai HC1.out ?_;rintro e w3 ⟨rfl,hT⟩)
    refine yay (v:=.tuple #[]) (by simp[results,results46,go_sem]) rfl ?_
    rw[HRb.out]
    exact⟨rfl,hT.1,hT.2.1,(Mv.of HK.out).bad hT.2.2⟩
   ·obtain⟨w,hv⟩:=HG1.out s v rfl
    have hv0:(0:Int)<=(v:Int):=xaa
    have hGT:=w.g
    have HRT:Hid (r=.ok {s with names:=s.names++[.val ntx v]}):=HRb.out
    go_upto_region 49 with (go_at_call 75;refine yai HC1.out ?_;rintro e wT ⟨rfl,v1,v2,v3,v4,hWT,hM3⟩)
    have HMT:Hid _:=(Mv.of (M:=Mst P u1 u2 u3 u4) HK.out).trans hM3
    have HBT:Hid _:=HB.out.keepC hM3.chg HFar.out
    have hbM:¬Mst P v1 v2 v3 v4 bx:=λc=>(hM3.new bx c).elim HFar.out (λc=>by have:=HB.out.lt;omega)
    clear HC1 HG1 HRb hM3 HH HW1 b1 b2 HB w
    obtain⟨i0,hi0,hz0,hz1,hz2⟩:=kZ
    have q3:=hWT.c3
    have fz:=hWT.fr 3
    have hP1:=hWT.lt
    have hBz:B<=wT.heap.size:=by have:=hWT.sz;omega
    obtain⟨a4,cp4,e4⟩:=iM hWT.r4
    have HRo:Hid (v4.ownBlock≠some P/\v4.ownBlock≠some bx):=⟨hWT.np.2.2.2,λc=>hbM (.inr (.inr (.inr (.inr c))))⟩
    have hbx:=HBT.out.lt
    have t2:=HBT.out.c2
    have hown:Hid _:=hWT.r4
    have HWT:Hid _:=hWT
    have hNb:bs.length<=5000:=by rw[hWT.nl];exact hGT.m
    clear hWT
    subst e4
    generalize hN:bs.length=N at*
    have HN:Hid _:=hN
    clear hN
    go_upto_region 50 with fail
    go_region_law
     ((refine step_append_lies _ rfl (.tmp 256) (.tmp 261) 78 rfl B 108 i0 (.agg #[.string ⟨#[]⟩,.bool false,.int .i64 0,.slice none 0 0,.slice none 0 0]) 5 80 underlying78 hi0 hz0 hz1 hz2 rfl xab _ _ (bcF bs) (by simp[Act.eval]) (jK hown.out 1 _) ⟨wT.heap.size,0,none⟩ 1 1 (Bc.cells ⟨ntx,false,(v:Int),none,0,0,none,0,0⟩) (by simp[Act.eval]) rfl (BL _ _ _) (Hc _) xab (by unfold maxLen;omega) xaa yaf _ rfl ?_;intro g9 cap9 w9 hown9 hg9 hat9 hlt9;have s0:=jC hg9 hP1 HRo.out.1 q3;have f0:=far2 hg9 hP1 HRo.out.1 fz;have s1:=jC hg9 hbx HRo.out.2 t2))
    all_goals
     have hat':=hat9.imp id (λe=>Nat.le_of_eq e.symm)
     have kd:=(ez 0 0 wT (.cells #[eE ntx,.bool false,.int .i64 (v:Int),.slice none 0 0,.slice none 0 0] 108)).trans (eK 0 0 _ 1)
     obtain⟨hWn,hMn⟩:=(HWT.out.keep kd).nms_ (b:=⟨ntx,false,(v:Int),none,0,0,none,0,0⟩) (d:=.val ntx v) (g9:=g9) (n9:=N+1) (cap9:=cap9) (gD hg9) (by rw[yak,HN.out];rfl) (by rw[sf,sh];exact hown9) hat' (λ_=>⟨rfl,rfl,rfl⟩)
     have HWn:Hid _:=hWn
     have HMn:Hid _:=(HMT.out.keep kd).trans hMn
     clear hWn hMn hat' kd hown9 hg9 hat9 hlt9 s0 f0 s1
     go_wp2_with fail
     refine yay (v:=.tuple #[]) (by simp[results,results46,go_sem]) rfl ?_
     rw[HRT.out]
     exact⟨rfl,_,_,_,_,_,HWn.out,HMn.out⟩
