import Derived.Test.YtdpbpcnldpkljaaGreatP31
namespace Go.Proofs.Z
open Tryz
set_option maxRecDepth 1000000
set_option maxHeartbeats 0
open Go.RowKit Flt
attribute [local go_sem] eD eB eA
variable {w W0 W1 W':World} {ops:Array Oper} {M':Nat->Prop} {ts:List Tok} {rest:List Oper} {k P B e1 i n gr q o c ns cp cap:Nat} {a b1 b3:Option Addr} {u1 u2 u3 v u4 z1 z2 z3:Value} {Q:Exit->Act->World->Prop} {xs js:List Nat} {r:Rs (LSt×Nat)} {bs:List Bc} {st:LSt} {vs:List Vl}
structure XsR (M:Nat->Prop)(W:World)(a:Option Addr)(n:Nat)(xs:List Nat):Prop where
 len:xs.length=n
 at_:0<n->∃g off,a=some ⟨g,off,none⟩/\¬M g/\g<W.heap.size/\∀k,k<n->W.cell? ⟨g,off+k,none⟩=some (.int .i64 (xs.getD k 0:Nat))
theorem XsR.mv {M:Nat->Prop}{W:World}(h:XsR M W a n xs)(k:Mv M W M' W'):XsR M' W' a n xs:=
 ⟨h.len,λhn=>by
  obtain⟨g,off,e,h1,h2,h3⟩:=h.at_ hn
  exact⟨g,off,e,λc=>(k.new g c).elim h1 (λc=>by omega),yaj h2 k.chg.size,λj hj=>(k.chg.cell (p:=⟨g,off+j,none⟩) h2 h1).trans (h3 j hj)⟩⟩
theorem XsR.keep {M:Nat->Prop}{W:World}(h:XsR M W a n xs)(k:Kept 0 0 W W'):XsR M W' a n xs:=h.mv (Mv.of k)
theorem WS.lenc {W:World}(h:WS W P B u1 u2 u3 u4 bs st)(hi:i<st.vs.length):∃g cap,u2=.slice (some ⟨g,0,none⟩) st.vs.length cap/\g<W.heap.size/\W.cell? ⟨g,i*6+1,none⟩=some (.int .i64 (eU st i)):=by
 obtain⟨g,cap,e,_,h2,_,h4⟩:=kr h.r2 xaa rfl
 exact⟨g,cap,e,h2,(h4.at_ i hi).c1⟩
theorem TkR.weak {M:Nat->Prop}{W:World}(h:TkR M W a n ts)(hM:∀b,M' b->M b):TkR M' W a n ts:=
 ⟨h.len,λhn=>by obtain⟨g,off,e,h1,h2⟩:=h.at_ hn;exact⟨g,off,e,λc=>h1 (hM g c),h2⟩⟩
theorem BcOK.weak {M:Nat->Prop}{W:World}{b:Bc}{d:Bdg}(h:BcOK M W b d)(hM:∀b,M' b->M b):BcOK M' W b d:=by
 cases d with
 |val nm v=>exact h
 |fn nm ps e=>
  obtain⟨h1,h2,h3,ts,h4,h5,h6⟩:=h
  exact⟨h1,h2,h3.weak hM,ts,h4,h5,h6.weak hM⟩
theorem WS.side {W:World}{S:Nat->Prop}(h:WS W P B u1 u2 u3 u4 bs st)(c:Chg S W W')(hS:∀b,Mst P u1 u2 u3 u4 b->¬S b)(hnb:∀i,i<bs.length->BcOK (Mst P u1 u2 u3 u4) W' (bs.getD i Bc.zero) (st.names.getD i (.val [] 0))):WS W' P B u1 u2 u3 u4 bs st:=by
 have nP:¬S P:=hS P (.inl rfl)
 have e:∀o,W'.cell? ⟨P,o,none⟩=W.cell? ⟨P,o,none⟩:=λo=>c.cell (p:=⟨P,o,none⟩) h.lt nP
 exact⟨yaj h.lt c.size,λo=>(c.frozen (p:=⟨P,o,none⟩) h.lt nP).trans (h.fr o),(e 0).trans h.c0,(e 1).trans h.c1,(e 2).trans h.c2,(e 3).trans h.c3,(e 4).trans h.c4,(e 5).trans h.c5,(e 6).trans h.c6,fj h.r1 c (λb hb=>hS b (.inr (.inl hb))),fj h.r2 c (λb hb=>hS b (.inr (.inr (.inl hb)))),fj h.r3 c (λb hb=>hS b (.inr (.inr (.inr (.inl hb))))),fj h.r4 c (λb hb=>hS b (.inr (.inr (.inr (.inr hb))))),h.np,h.ap,h.nl,hnb,h.sz⟩
def FtO (W:World)(P B:Nat)(u1 u2 u3 u4:Value)(bs:List Bc)(r:Rs (LSt×List Nat))(e:Ending)(W':World):Prop:=
 match r with
 |.error (c,p)=>e=.returned (.slice none 0 0)/\W'.cell? ⟨P,5,none⟩=some (.int .i64 c)/\W'.cell? ⟨P,6,none⟩=some (.int .i64 (p:Int))/\Chg (Mst P u1 u2 u3 u4) W W'
 |.ok (st,js)=>∃a cap,e=.returned (.slice a js.length cap)/\∃v1 v2 v3 v4,WS W' P B v1 v2 v3 v4 bs st/\Mv (Mst P u1 u2 u3 u4) W (Mst P v1 v2 v3 v4) W'/\XsR (Mst P v1 v2 v3 v4) W' a js.length js
structure FtI (W W':World)(P B:Nat)(u1 u2 u3 u4:Value)(bs:List Bc)(st:LSt)(o:Value)(js:List Nat):Prop where
 ex:∃v1 v2 v3 v4,WS W' P B v1 v2 v3 v4 bs st/\Mv (Mst P u1 u2 u3 u4) W (λb=>Mst P v1 v2 v3 v4 b\/o.ownBlock=some b) W'/\(∀b,o.ownBlock=some b->¬Mst P v1 v2 v3 v4 b)
 row:W'.ownsRow W.heap.size 3 1 o js.length (js.map λj:Nat=>Value.int .i64 (j:Int))
theorem iN (w:World){o:Oper}{a:Act}(hgd:o.guard=none)(s x:Operand)
  (ho:o.op=.call {callee:=.builtin .append,args:=#[s,x],argTypes:=#[23,23]})
  (B:Nat) (v:Value) (js:List Nat) (hs:a.eval s=v) (hown:w.ownsRow B 3 1 v js.length (js.map λj:Nat=>Value.int .i64 (j:Int)))
  (ad:Addr) (y:Nat) (hx:a.eval x=.slice (some ad) 1 1) (hnews:w.cell? ad=some (.int .i64 (y:Int)))
  (h63:js.length+1<=1000000) (hbase:B<=w.heap.size)
  (h:∀g cap n w',n=(js++[y]).length->w'.ownsRow B 3 1 (.slice (some ⟨g,0,none⟩) n cap) (js++[y]).length ((js++[y]).map λj:Nat=>Value.int .i64 (j:Int))->Chg (λb=>v.ownBlock=some b) w w'->(v.ownBlock=some g\/g=w.heap.size)->wpList prog ops Q rest (a.put o.dst (.slice (some ⟨g,0,none⟩) n cap)) w'):wpList prog ops Q (o::rest) a w:=by
 obtain⟨i0,hi,hz0,hz1,hz2⟩:=info_parts oi
 refine wpList_append_lies w hgd s x 23 ho B 3 i0 (.int .i64 0) 1 8 underlying23 hi hz0 hz1 hz2 rfl xab v js.length _ hs hown ad 1 1 [.int .i64 (y:Int)] hx rfl ?_ ?_ xab (by unfold maxLen;omega) xaa hbase _ rfl ?_
 ·exact xef
 ·intro u hu;simp at hu;subst hu;rfl
 ·exact xds
theorem FtI.keep {W W'':World}{o:Value}(h:FtI W W' P B u1 u2 u3 u4 bs st o js)(k:Kept 0 0 W' W''):FtI W W'' P B u1 u2 u3 u4 bs st o js:=by
 exact xhu
theorem FtI.step {W W3:World}{v1 v2 v3 v4 z4:Value}{st1:LSt}{o:Value}(hM:Mv (Mst P u1 u2 u3 u4) W (λb=>Mst P v1 v2 v3 v4 b\/o.ownBlock=some b) W1)(hO:∀b,o.ownBlock=some b->¬Mst P v1 v2 v3 v4 b)(hrow:W1.ownsRow W.heap.size 3 1 o js.length (js.map λj:Nat=>Value.int .i64 (j:Int)))(hW3:WS W3 P B z1 z2 z3 z4 bs st1)(hM3:Mv (Mst P v1 v2 v3 v4) W1 (Mst P z1 z2 z3 z4) W3):FtI W W3 P B u1 u2 u3 u4 bs st1 o js:=by
 exact xde
theorem FtI.app {W w9:World}{st0:LSt}{o:Value}(h0:WS W P B u1 u2 u3 u4 bs st0)(hnm:st.names=st0.names)(h:FtI W W' P B u1 u2 u3 u4 bs st o js){g9 n9 cap9 x:Nat}(hR:w9.ownsRow W.heap.size 3 1 (.slice (some ⟨g9,0,none⟩) n9 cap9) (js.length+1) ((js.map λj:Nat=>Value.int .i64 (j:Int))++[.int .i64 (x:Int)]))(hC:Chg (λb=>o.ownBlock=some b) W' w9)(hG:o.ownBlock=some g9\/g9=W'.heap.size):FtI W w9 P B u1 u2 u3 u4 bs st (.slice (some ⟨g9,0,none⟩) n9 cap9) (js++[x]):=by
 obtain⟨⟨v1,v2,v3,v4,h1,h2,h3⟩,h4⟩:=h
 have ob:∀b,(Value.slice (some ⟨g9,0,none⟩) n9 cap9).ownBlock=some b↔g9=b:=λb=>by simp[Value.ownBlock]
 have hd:∀b,Mst P v1 v2 v3 v4 b->b<W'.heap.size:=λb hb=>by
  exact xgu
 have hng:¬Mst P v1 v2 v3 v4 g9:=λc=>by
  rcases hG with e|e
  ·exact h3 g9 e c
  ·have:=hd g9 c;omega
 have mv:Mv (Mst P u1 u2 u3 u4) W (λb=>Mst P v1 v2 v3 v4 b\/(Value.slice (some ⟨g9,0,none⟩) n9 cap9).ownBlock=some b) w9:=by
  exact xew
 refine⟨⟨v1,v2,v3,v4,h1.side hC (λb hb c=>h3 b c hb) (λi hi=>?_),mv,λb hb c=>?_⟩,?_⟩
 ·exact xie
 ·rw[ob] at hb;subst hb;exact hng c
 ·rw[yak,List.map_append];exact hR
theorem tY {W:World}(h:WS W P B u1 u2 u3 u4 bs st)(g:Gd st)(aX:Option Addr)(nX cX:Nat)(xs:List Nat)(hX:XsR (Mst P u1 u2 u3 u4) W aX nX xs)(hn:nX<=100)(hx:∀i∈xs,i<st.vs.length)(p:Nat):
  Calls prog 108 #[.pointer (some ⟨P,0,none⟩),.slice aX nX cX,.int .i64 (p:Int)] W (FtO W P B u1 u2 u3 u4 bs (iY st xs p)):=by
 have HW:Hid _:=h
 have HG:Hid _:=g
 have HX:Hid _:=hX
 have HXL:Hid (xs.length=nX):=hX.len
 have HXB:Hid (∀k,k<nX->xs.getD k 0<st.vs.length):=λk hk=>hx _ (by
  rw[yah,yal (by rw[hX.len];exact hk)]
  exact List.getElem_mem _)
 have HMB:Hid _:=sj g xs hx
 have HF:Hid (iY st xs p=if xs.all (λi=>eU st i==lk st xs||eU st i==1)=true then gS (lk st xs) p st xs else .error (4,p)):=rfl
 generalize iY st xs p=r at HF ⊢
 have HRd:Hid (∀W' k,Kept 0 0 W W'->k<nX->∃gv cap gx off,u2=.slice (some ⟨gv,0,none⟩) st.vs.length cap/\aX=some ⟨gx,off,none⟩/\W'.cell? ⟨P,1,none⟩=some u2/\W'.cell? ⟨gx,off+k,none⟩=some (.int .i64 (xs.getD k 0:Nat))/\W'.cell? ⟨gv,xs.getD k 0*6+1,none⟩=some (.int .i64 (eU st (xs.getD k 0)))):=λW' k kk hk=>by
  obtain⟨gv,cap,e1,_,h2⟩:=(HW.out.keep kk).lenc (HXB.out k hk)
  obtain⟨gx,off,e3,_,_,h4⟩:=(HX.out.keep kk).at_ xaa
  exact⟨gv,cap,gx,off,e1,e3,(HW.out.keep kk).c1,h4 k hk,h2⟩
 have hN:=g.n
 clear h g hX hx
 go_enter func108,ntmps108
 go_wp2_with fail
 go_loopw [7,8] (λnv iv W'=>∃k:Nat,k<=nX/\iv=.int .i64 k/\nv=.int .i64 (lk st (xs.take k))/\Hid (Kept 0 0 W W')) (λ_ iv _=>nX-(intOf iv).toNat)
 case atStart=>exact⟨0,Nat.zero_le _,rfl,rfl,Kept.refl 0 0 W⟩
 case round=>
  obtain⟨k,hk,rfl,rfl,hK⟩:=hrel
  by_cases hlt:k<nX
  ·obtain⟨gv,cap,gx,off,e1,e2,c1,c2,c3⟩:=HRd.out wr k hK.out hlt
   subst e1 e2
   have HS:Hid _:=qN st xs k (by rw[HXL.out];exact hlt)
   have hxb:=HXB.out k hlt
   generalize xs.getD k 0=x at c2 c3 HS hxb
   generalize eU st x=l at c3 HS
   generalize lk st (xs.take k)=m at HS ⊢
   go_upto_region 5 with fail
   go_quiet (fail)
   have HK4:Hid _:=Kept.trans hK.out (eK 0 0 wr nq)
   have d1:(wr.drewN nq).cell? ⟨P,1,none⟩=some (.slice (some ⟨gv,0,none⟩) st.vs.length cap):=c1
   have d2:(wr.drewN nq).cell? ⟨gx,off+k,none⟩=some (.int .i64 (x:Nat)):=c2
   have d3:(wr.drewN nq).cell? ⟨gv,x*6+1,none⟩=some (.int .i64 l):=c3
   clear c1 c2 c3 hK
   generalize wr.drewN nq=W4 at HK4 d1 d2 d3 ⊢
   by_cases hml:m<l
   ·have R:Hid (lk st (xs.take (k+1))=l):=HS.out.trans (if_pos hml)
    go_upto_region 6 with fail
    go_quiet (fail)
    have HK5:Hid _:=Kept.trans HK4.out (eK 0 0 W4 nq)
    generalize W4.drewN nq=W5 at HK5 ⊢
    clear d1 d2 d3
    go_wp2_with fail
    go_roundw
    case rel=>exact⟨k+1,by omega,by go_num,by rw[R.out],HK5⟩
    case measure=>simp[intOf];omega
   ·have R:Hid (lk st (xs.take (k+1))=m):=HS.out.trans (if_neg hml)
    clear d1 d2 d3
    go_wp2_with fail
    go_roundw
    case rel=>exact⟨k+1,by omega,by go_num,by rw[R.out],HK4⟩
    case measure=>simp[intOf];omega
  ·obtain rfl:k=nX:=xaa
   have hM:=HMB.out k (by rw[HXL.out];exact yad)
   rw[yao (by rw[HXL.out];exact yad)] at hM ⊢
   generalize lk st xs=M at hM HF ⊢
   clear HMB
   have HK1:Hid _:=hK.out
   clear hK
   go_upto_region 7 with fail
   go_wp2_with fail
   go_loopw [9] (λiv W'=>∃j:Nat,j<=k/\iv=.int .i64 j/\Hid (Kept 0 0 W W')/\Hid (∀q,q<j->(eU st (xs.getD q 0)==M||eU st (xs.getD q 0)==1)=true)) (λiv _=>k-(intOf iv).toNat)
   case atStart=>exact⟨0,Nat.zero_le _,rfl,HK1,λq hq=>by omega⟩
   case round=>
    obtain⟨j,hj,rfl,hK,hA⟩:=hrel
    by_cases hlt2:j<k
    ·obtain⟨gv,cap,gx,off,e1,e2,c1,c2,c3⟩:=HRd.out wr j hK.out hlt2
     subst e1 e2
     have hxb:=HXB.out j hlt2
     have HA:Hid (∀l,eU st (xs.getD j 0)=l->(l==M||l==1)=true->∀q,q<j+1->(eU st (xs.getD q 0)==M||eU st (xs.getD q 0)==1)=true):=λl hl hb q hq=>by
      by_cases c:q=j
      ·subst c;rw[hl];exact hb
      ·exact hA.out q xaa
     have HBd:Hid (∀l,eU st (xs.getD j 0)=l->(l==M||l==1)=false->xs.all (λi=>eU st i==M||eU st i==1)=false):=λl hl hb=>by
      rw[List.all_eq_false]
      refine⟨xs.getD j 0,?_,?_⟩
      ·rw[yah,yal (by rw[HXL.out];exact hlt2)]
       exact List.getElem_mem _
      ·rw[hl,hb];simp
     generalize hll:eU st (xs.getD j 0)=l at c3
     have HLl:Hid _:=hll
     clear hll
     generalize xs.getD j 0=x at c2 c3 hxb HLl HA HBd
     have HSt:Hid (∀W',Kept 0 0 W W'->_):=λW' kk=>iL (HW.out.keep kk).c5 (HW.out.keep kk).c6 (HW.out.keep kk).fr 4 p (Mst P u1 (.slice (some ⟨gv,0,none⟩) st.vs.length cap) u3 u4) (.inl rfl)
     go_upto_region 10 with fail
     go_quiet (fail)
     have HK4:Hid _:=Kept.trans hK.out (eK 0 0 wr nq)
     clear c1 c2 c3 hK
     generalize wr.drewN nq=W4 at HK4 ⊢
     cases t1:(l==M)
     ·have t1b:(l !=M)=true:=by unfold bne;rw[t1];rfl
      cases t2:(l==1)
      ·have t2b:(l !=1)=true:=by unfold bne;rw[t2];rfl
       have R:Hid (r=.error (4,p)):=HF.out.trans (if_neg (by rw[HBd.out l HLl.out (by rw[t1,t2];rfl)];simp))
       have HS4:Hid _:=HSt.out W4 HK4.out
       clear HA HBd
       go_wp2_with (go_at_call 74;refine yai HS4.out ?_;rintro e w3 ⟨rfl,hbad⟩)
       go_ret
       rw[R.out]
       exact⟨rfl,hbad.c5,hbad.c6,(Mv.of HK4.out).bad hbad.chg⟩
      ·have t2b:(l !=1)=false:=by unfold bne;rw[t2];rfl
       have R:Hid _:=HA.out l HLl.out (by rw[t1,t2];rfl)
       exact xhg
     ·have t1b:(l !=M)=false:=by unfold bne;rw[t1];rfl
      have R:Hid _:=HA.out l HLl.out (by rw[t1];rfl)
      exact xhg
    ·obtain rfl:j=k:=xaa
     have HAll:Hid (∀q,q<j->(eU st (xs.getD q 0)==M||eU st (xs.getD q 0)==1)=true):=hA.out
     have HF2:Hid (r=gS M p st xs):=HF.out.trans (if_pos (by
      rw[List.all_eq_true]
      intro i hi
      obtain⟨q,hq,rfl⟩:=List.getElem_of_mem hi
      have:=hA.out q (by rw[<-HXL.out];exact hq)
      rw[yah,yal hq] at this
      exact this))
     have HK2:Hid _:=hK.out
     clear hK hA HF
     have HI0:Hid (FtI W wr P B u1 u2 u3 u4 bs st (.slice none 0 0) []):=⟨⟨u1,u2,u3,u4,HW.out.keep HK2.out,⟨(Mv.of (M:=Mst P u1 u2 u3 u4) HK2.out).chg,λb hb=>.inl (hb.elim id (λc=>by simp[Value.ownBlock] at c))⟩,λb hb=>by simp[Value.ownBlock] at hb⟩,yav _ _ _ _⟩
     have HR0:Hid (r=pN [] (gS M p st (xs.drop 0))):=by show _=_;rw[Az];exact HF2.out
     go_upto_region 14 with fail
     go_wp2_with fail
     go_loopw [11,12] (λov iv W'=>∃(q:Nat) (sk:LSt) (js:List Nat),q<=j/\iv=.int .i64 q/\js.length=q/\Hid (FtI W W' P B u1 u2 u3 u4 bs sk ov js)/\Hid (Gd sk)/\Hid (sk.names=st.names)/\Hid (∀i,i<st.vs.length->i<sk.vs.length/\eU sk i=eU st i)/\Hid (r=pN js (gS M p sk (xs.drop q)))) (λ_ iv _=>j-(intOf iv).toNat)
     case atStart=>exact⟨0,st,[],Nat.zero_le _,rfl,rfl,HI0,HG,(show Hid (st.names=st.names) from rfl),(show Hid (∀i,i<st.vs.length->i<st.vs.length/\eU st i=eU st i) from λi hi=>⟨hi,rfl⟩),HR0⟩
     case round=>
      obtain⟨q,sk,js,hq,rfl,hjs,hFI,hGk,hNM,hLk,hRr⟩:=hrel
      have HJS:Hid (js.length=q):=hjs
      clear hjs
      by_cases hlt3:q<j
      ·obtain⟨v1,v2,v3,v4,hWk,hMk,hOk⟩:=hFI.out.ex
       obtain⟨gx,off,rfl,_,_,hcx⟩:=(HX.out.mv hMk).at_ xaa
       have cx:=hcx q hlt3
       have hx1:=HXB.out q hlt3
       obtain⟨hx2,hx3⟩:=hLk.out _ hx1
       have HDr:Hid (xs.drop q=xs.getD q 0::xs.drop (q+1)):=by
        show _=_
        rw[List.drop_eq_getElem_cons (by rw[HXL.out];exact hlt3),yah,yal (by rw[HXL.out];exact hlt3)];rfl
       have HAq:Hid _:=HAll.out q hlt3
       obtain⟨gv,capv,e2,hgv,cl⟩:=hWk.lenc hx2
       have cp:=hWk.c1
       rw[hx3] at cl
       have HWk:Hid _:=hWk
       have HMk:Hid _:=hMk
       have HOk:Hid _:=hOk
       rw[<-hx3] at HAq
       generalize xs.getD q 0=x at cx hx1 hx2 hx3 HDr HAq cl
       have HSZ:Hid (W.heap.size<=wr.heap.size):=hMk.chg.size
       have hkN:=hGk.out.n
       subst e2
       clear hcx hWk hMk hOk
       by_cases hlM:eU st x<M
       ·have hl1:eU sk x=1:=by
         have h:=HAq.out
         rw[hx3] at h
         have:(eU st x==M)=false:=yaw xaa
         rw[this,Bool.false_or] at h
         rw[hx3]
         simpa using h
        have hlM2:eU sk x<M:=by rw[hx3];exact hlM
        have HOp:Hid (∀W',_):=λW'=>gj W' 10 M (x:Int) 0 0
        have HPt:Hid (∀W',Kept 0 0 wr W'->_):=λW' kk=>jV (HWk.out.keep kk) hGk.out (eI 10 M (x:Int) 0 0) hM (show(0:Nat)<18446744073709551616 by decide) p
        have HOK:Hid _:=CT hx2 hl1 hM
        have HPM:Hid (fI sk (eI 10 M (x:Int) 0 0) p=if ji (sk.vs++[eI 10 M (x:Int) 0 0])=true then .error (5,p) else .ok ({sk with vs:=sk.vs++[eI 10 M (x:Int) 0 0]},sk.vs.length)):=rfl
        have HFp:Hid (∀st1 jj,fI sk (eI 10 M (x:Int) 0 0) p=.ok (st1,jj)->r=pN (js++[jj]) (gS M p st1 (xs.drop (q+1)))):=λst1 jj e=>by rw[hRr.out,HDr.out,mr hlM2 e,qO]
        have HFb:Hid (∀f,fI sk (eI 10 M (x:Int) 0 0) p=.error f->r=.error f):=λf e=>by rw[hRr.out,HDr.out,ms hlM2 e];rfl
        generalize eU st x=l at cl hlM
        cases hb:ji (sk.vs++[eI 10 M (x:Int) 0 0])
        ·rw[hb,if_neg xac] at HPM
         rw[HPM.out] at HPt
         have R2:Hid _:=HFp.out _ _ HPM.out
         have HGn:Hid _:=hGk.out.put HOK.out (show(0:Nat)<18446744073709551616 by decide) hb
         have HLn:Hid (∀i,i<st.vs.length->i<(LSt.mk sk.ins (sk.vs++[eI 10 M (x:Int) 0 0]) sk.outs sk.names sk.calls).vs.length/\eU (LSt.mk sk.ins (sk.vs++[eI 10 M (x:Int) 0 0]) sk.outs sk.names sk.calls) i=eU st i):=λi hi=>by
          obtain⟨h1,h2⟩:=hLk.out i hi
          refine⟨by simp only[yak];omega,?_⟩
          rw[<-h2]
          unfold eU
          simp only
          rw[yah,yas h1,<-yah]
         have HNn:Hid ((LSt.mk sk.ins (sk.vs++[eI 10 M (x:Int) 0 0]) sk.outs sk.names sk.calls).names=st.names):=hNM.out
         have HRow:Hid _:=hFI.out.row
         generalize hsn:sk.vs.length=sn at HPt R2
         have hsn2:sn<=2000:=xaa
         clear hb HPM HFp HFb hl1 hlM2 hx3 HAq HDr hRr HOK
         go_upto_region 21 with (first
          |(go_at_call 26;refine yai (HOp.out _) ?_;rintro e w2 ⟨rfl,k2⟩)
          |(go_at_call 78;refine yai (HPt.out _ k2) ?_;intro e w3 hT;obtain⟨rfl,z1,z2,z3,z4,hW3,hM3⟩:=hT))
         have HFn:Hid _:=FtI.step (HMk.out.keep k2) HOk.out (eO HRow.out k2) hW3 hM3
         have HSn:Hid (W.heap.size<=w3.heap.size):=by show _<=_;have:=HSZ.out;have:=k2.size;have:=hM3.chg.size;omega
         clear HSZ hFI HWk HMk HOk HRow cx cl cp k2 hW3 hM3 HPt HOp hsn
         have hCn:(w3.alloc (.cells #[.int .i64 (sn:Int)] 3)).cell? ⟨w3.heap.size,0,none⟩=some (.int .i64 (sn:Int)):=by rw[yau];rfl
         have kA:=ez 0 0 w3 (.cells #[.int .i64 (sn:Int)] 3)
         have HFB:Hid _:=HFn.out.keep kA
         go_wp2_with (first|(at_builtin;refine iN _ rfl _ _ rfl W.heap.size _ js rfl HFB.out.row ⟨w3.heap.size,0,none⟩ sn rfl hCn ?c2 ?c3 ?_)|fail)
         case c2=>have:=HJS.out;omega
         case c3=>have:=HSn.out;simp;omega
         intro g9 cap9 n9 w9 hn9 hR9 hC9 hG9
         have R1:Hid _:=FtI.app (st:={sk with vs:=sk.vs++[eI 10 M (x:Int) 0 0]}) HW.out HNn.out HFB.out hR9 hC9 (hG9.imp id (λe=>by rw[e];simp))
         clear hR9 hC9 hG9 hn9 kA hCn
         go_wp2_with fail
         go_roundw
         case rel=>exact⟨q+1,_,js++[sn],by omega,by go_num,by rw[yak,HJS.out];rfl,R1,HGn,HNn,HLn,R2⟩
         case measure=>simp[intOf];omega
        ·rw[hb,if_pos rfl] at HPM
         rw[HPM.out] at HPt
         have R2:Hid _:=HFb.out _ HPM.out
         clear hb HPM HFp HFb hl1 hlM2 hx3 HAq HDr hRr HOK
         go_upto_region 21 with (first
          |(go_at_call 26;refine yai (HOp.out _) ?_;rintro e w2 ⟨rfl,k2⟩)
          |(go_at_call 78;refine yai (HPt.out _ k2) ?_;intro e w3 hT;obtain⟨rfl,h5,h6,hc3⟩:=hT))
         have H5:Hid _:=h5
         have H6:Hid _:=h6
         have HCc:Hid (Chg (Mst P u1 u2 u3 u4) W w3):=(HMk.out.keep k2).bad ⟨hc3.os,hc3.tape,hc3.output,hc3.size,λi hi hn=>hc3.block i hi (λc=>hn (.inl c))⟩
         clear h5 h6 hc3
         go_wp2_with fail
         go_ret
         rw[R2.out]
         exact⟨rfl,H5.out,H6.out,HCc.out⟩
       ·have R2:Hid (r=pN (js++[x]) (gS M p sk (xs.drop (q+1)))):=by
         show _=_
         rw[hRr.out,HDr.out,lJ (by rw[hx3];exact hlM),qO]
        generalize eU st x=l at cl hlM
        clear hx3 HAq HDr hRr
        have hCn:(wr.alloc (.cells #[.int .i64 (x:Int)] 3)).cell? ⟨wr.heap.size,0,none⟩=some (.int .i64 (x:Int)):=by rw[yau];rfl
        have kA:=ez 0 0 wr (.cells #[.int .i64 (x:Int)] 3)
        have HFB:Hid _:=hFI.out.keep kA
        go_wp2_with (first|(at_builtin;refine iN _ rfl _ _ rfl W.heap.size _ js rfl HFB.out.row ⟨wr.heap.size,0,none⟩ x rfl hCn ?c2 ?c3 ?_)|fail)
        case c2=>have:=HJS.out;omega
        case c3=>have:=HSZ.out;simp;omega
        intro g9 cap9 n9 w9 hn9 hR9 hC9 hG9
        have R1:Hid _:=FtI.app HW.out hNM.out HFB.out hR9 hC9 (hG9.imp id (λe=>by rw[e];simp))
        clear hR9 hC9 hG9 hn9 kA hCn
        go_wp2_with fail
        go_roundw
        case rel=>exact⟨q+1,sk,js++[x],by omega,by go_num,by rw[yak,HJS.out];rfl,R1,hGk,hNM,hLk,R2⟩
        case measure=>simp[intOf];omega
      ·obtain rfl:q=j:=xaa
       have R:Hid (r=.ok (sk,js)):=by
        show _=_
        rw[hRr.out,List.drop_eq_nil_of_le (by rw[HXL.out];exact yad)]
        show Except.ok (sk,js++[])=_
        rw[List.append_nil]
       obtain⟨v1,v2,v3,v4,hWk,hMk,hOk⟩:=hFI.out.ex
       obtain⟨ao,co,ho⟩:=iB hFI.out.row
       have HXo:Hid (XsR (Mst P v1 v2 v3 v4) wr ao js.length js):=by
        refine⟨rfl,λhn0=>?_⟩
        have hrow:=hFI.out.row
        rcases hrow.2 with⟨_,c⟩|⟨g,c,cur,e,b1,b2,b3,_,b5,b6⟩
        ·omega
        ·rw[ho] at e
         cases e
         have hg:g<wr.heap.size:=by
          rcases Nat.lt_or_ge g wr.heap.size with c|c
          ·exact c
          ·rw[Array.getElem?_eq_none c] at b2;cases b2
         refine⟨g,0,rfl,hOk g (by rw[ho];simp[Value.ownBlock]),hg,λk hk=>?_⟩
         rw[Nat.zero_add,cell_of_row wr g _ cur _ _ b2,<-Array.getElem?_toList]
         exact xff
       have HWk:Hid _:=hWk
       have HMk:Hid (Mv (Mst P u1 u2 u3 u4) W (Mst P v1 v2 v3 v4) wr):=⟨hMk.chg,λb hb=>hMk.new b (.inl hb)⟩
       clear hWk hMk hOk hFI
       subst ho
       go_wp2_with fail
       go_ret
       rw[R.out]
       exact⟨ao,co,rfl,v1,v2,v3,v4,HWk.out,HMk.out,HXo.out⟩
def spQ (ts:List Tok)(k:Nat):SpS:=jQ ⟨0,[],[]⟩ (ts.take k)
theorem AF (h:k<ts.length):spQ ts (k+1)=gK (spQ ts k) (ts.getD k Tok.zero):=by
 unfold spQ
 rw[yat h,kI,yah,yal h];rfl
theorem Is:∀(ts:List Tok) (q:SpS),q.d-ts.length<=(jQ q ts).d/\(jQ q ts).d<=q.d+ts.length
 |[],q=>by show q.d-0<=q.d/\q.d<=q.d+0;omega
 |t::ts,q=>by
  rw[jd,yap]
  have h1:=Is ts (gK q t)
  have h2:q.d-1<=(gK q t).d/\(gK q t).d<=q.d+1:=by
   unfold gK
   split
   ·simp only;omega
   ·split
    ·simp only;omega
    ·split
     ·rename_i h;simp only;omega
     ·simp only;omega
  omega
theorem Gi:-(k:Int)<=(spQ ts k).d/\(spQ ts k).d<=k:=by
 have h:=Is (ts.take k) ⟨0,[],[]⟩
 have h2:(ts.take k).length<=k:=by rw[List.length_take];omega
 unfold spQ
 simp only at h
 omega
def jG (ts:List Tok)(f:Nat×Nat):List Tok:=(ts.drop f.1).take (f.2-f.1)
theorem xY {F:Nat}(h:k<ts.length)(hF:F<=k):jG ts (F,k+1)=jG ts (F,k)++[ts.getD k Tok.zero]:=by
 unfold jG
 simp only
 have e:k+1-F=(k-F)+1:=xaa
 have hl:k-F<(ts.drop F).length:=by rw[List.length_drop];omega
 rw[e,yat hl,List.getElem_drop,yah,yal h]
 congr 2
 simp only[Option.getD_some]
 congr 1
 omega
theorem AG {f:Nat×Nat}(h:f.2<=ts.length):(jG ts f).length=f.2-f.1:=by
 unfold jG
 rw[List.length_take,List.length_drop]
 omega
def oC (g off cap:Nat)(f:Nat×Nat):Value:=.slice (some ⟨g,off+f.1*3,none⟩) (f.2-f.1) (cap-f.1)
theorem Gj:(prog.info? 70).map (λi=>(i.zero,i.size,i.bytes))=some (some (.slice none 0 0),1,24):=by kernel_rfl
theorem sA:∃i0,prog.info? 70=some i0/\i0.zero=some (.slice none 0 0)/\i0.size=1/\i0.bytes=24:=by
 have h:=Gj
 cases e:prog.info? 70 with
 |none=>rw[e] at h;cases h
 |some i0=>
  rw[e] at h
  simp only[Option.map_some,Option.some.injEq,Prod.mk.injEq] at h
  exact⟨i0,rfl,h.1,h.2.1,h.2.2⟩
theorem lL (w:World){o:Oper}{a:Act}(hgd:o.guard=none)(s x:Operand)
  (ho:o.op=.call {callee:=.builtin .append,args:=#[s,x],argTypes:=#[143,143]})
  (B:Nat) (v:Value) (fs:List Value) (hs:a.eval s=v) (hown:w.ownsRow B 70 1 v fs.length fs)
  (ad:Addr) (aa:Option Addr) (nn cc:Nat) (hx:a.eval x=.slice (some ad) 1 1) (hnews:w.cell? ad=some (.slice aa nn cc))
  (h63:fs.length+1<=1000000) (hbase:B<=w.heap.size)
  (h:∀g cap n w',n=fs.length+1->w'.ownsRow B 70 1 (.slice (some ⟨g,0,none⟩) n cap) (fs.length+1) (fs++[.slice aa nn cc])->Chg (λb=>v.ownBlock=some b) w w'->(v.ownBlock=some g\/g=w.heap.size)->wpList prog ops Q rest (a.put o.dst (.slice (some ⟨g,0,none⟩) n cap)) w'):wpList prog ops Q (o::rest) a w:=by
 obtain⟨i0,hi,hz0,hz1,hz2⟩:=sA
 refine wpList_append_lies w hgd s x 143 ho B 70 i0 (.slice none 0 0) 1 24 underlying143 hi hz0 hz1 hz2 rfl xab v fs.length _ hs hown ad 1 1 [.slice aa nn cc] hx rfl ?_ ?_ xab (by unfold maxLen;omega) xaa hbase _ rfl ?_
 ·exact xef
 ·intro u hu;simp at hu;subst hu;rfl
 ·intro g cap w' h1 h2 h3 _
  exact h g cap _ w' rfl h1 (gD h2) h3
theorem tZ {W:World}{e s:Nat}{xs:List Value}(k:Kept 0 0 w W)(f:W.ownsRow w.heap.size e s v n xs)(c:Chg (λb=>v.ownBlock=some b) W W'):Kept 0 0 w W':=
 Chg.kept k c (λ_ hi=>(eG f hi).1)
structure SgR (W:World)(g lo:Nat)(a:Option Addr)(segs:List (List Tok)):Prop where
 at_:0<segs.length->∃gr,a=some ⟨gr,0,none⟩/\lo<=gr/\gr<W.heap.size/\∀i,i<segs.length->∃o c,W.cell? ⟨gr,i,none⟩=some (.slice (some ⟨g,o,none⟩) (segs.getD i []).length c)/\TkA W g o (segs.getD i []).length (segs.getD i [])/\(segs.getD i []).length<=c
theorem ua (W:World)(a:Option Addr)(cap:Nat):Calls prog 111 #[.slice a 0 cap] W λe W'=>e=.returned (.slice none 0 0)/\W'=W:=by
 go_enter func111,ntmps111
 go_wp2
 go_ret
 exact⟨rfl,rfl⟩
theorem wv (W:World)(g off m cap:Nat)(ts:List Tok)(f:TkA W g off m ts)(hm:m<=5000)(h0:0<m)(hcp:m<=cap)(hne:(spQ ts m).cur≠[]):
  Calls prog 111 #[.slice (some ⟨g,off,none⟩) m cap] W λe W'=>∃a c,e=.returned (.slice a (fx ts).length c)/\SgR W' g W.heap.size a (fx ts)/\Kept 0 0 W W':=by
 have HF:Hid _:=f
 have HL:Hid (ts.length=m):=f.len
 have HE:Hid (fx ts=(spQ ts m).out++[(spQ ts m).cur]):=by
  show _=_
  unfold fx spQ
  rw[if_neg (by intro c;rw[c] at f;have:=f.len;simp at this;omega),<-f.len,List.take_length]
 have HNE:Hid _:=hne
 have hz0:((m:Int)==0)=false:=by simp;omega
 clear f hne
 go_enter func111,ntmps111
 go_wp2_with fail
 go_loopw [3,4,5,6] (λov dv fv iv W'=>∃(k F:Nat) (fs:List (Nat×Nat)),k<=m/\F<=k/\iv=.int .i64 k/\fv=.int .i64 F/\dv=.int .i64 (spQ ts k).d/\fs.length<=k/\Hid ((spQ ts k).cur=jG ts (F,k))/\Hid ((spQ ts k).out=fs.map (jG ts))/\Hid (∀f∈fs,f.1<=f.2/\f.2<=m)/\Hid (W'.ownsRow W.heap.size 70 1 ov fs.length (fs.map (oC g off cap)))/\Hid (Kept 0 0 W W')) (λ_ _ _ iv _=>m-(intOf iv).toNat)
 case atStart=>exact⟨0,0,[],Nat.zero_le _,yad,rfl,rfl,rfl,yad,(show(spQ ts 0).cur=jG ts (0,0) from by unfold jG;simp;rfl),(show(spQ ts 0).out=[] from rfl),(λf hf=>by cases hf),yav _ _ _ _,Kept.refl 0 0 W⟩
 case round=>
  obtain⟨k,F,fs,hk,hFk,rfl,rfl,rfl,hfl,hC,hO,hB,hR,hK⟩:=hrel
  by_cases hlt:k<m
  ·have hkl:k<ts.length:=by rw[HL.out];exact hlt
   have c0:=(HF.out.keep hK.out).c0 k hlt
   have HS:Hid _:=AF hkl
   have hbd:=Gi (ts:=ts) (k:=k)
   have HCs:Hid (jG ts (F,k+1)=jG ts (F,k)++[ts.getD k Tok.zero]):=xY hkl hFk
   generalize spQ ts k=Q at HS hbd hC hO ⊢
   generalize ts.getD k Tok.zero=tk at c0 HS HCs
   obtain⟨d,cur,out⟩:=Q
   simp only at hbd hC hO ⊢
   have HCur:Hid (cur++[tk]=jG ts (F,k+1)):=by show _=_;rw[HCs.out,hC.out]
   by_cases h1:tk.sym=[40]
   ·have R:Hid (spQ ts (k+1)=⟨d+1,cur++[tk],out⟩):=HS.out.trans (by unfold gK;rw[if_pos h1])
    have RC:Hid ((spQ ts (k+1)).cur=jG ts (F,k+1)):=by show _=_;rw[R.out];exact HCur.out
    have RO:Hid ((spQ ts (k+1)).out=fs.map (jG ts)):=by show _=_;rw[R.out];exact hO.out
    have t1:(tk.sym==[40])=true:=by rw[h1];rfl
    have z1:IntKind.i64.wrap (d+1)=d+1:=by rw[IntKind.wrap_i64];omega
    generalize tk.sym=s at c0 t1
    clear h1 HS HCs hkl
    exact xcz
   by_cases h2:tk.sym=[41]
   ·have R:Hid (spQ ts (k+1)=⟨d-1,cur++[tk],out⟩):=HS.out.trans (by unfold gK;rw[if_neg h1,if_pos h2])
    have RC:Hid ((spQ ts (k+1)).cur=jG ts (F,k+1)):=by show _=_;rw[R.out];exact HCur.out
    have RO:Hid ((spQ ts (k+1)).out=fs.map (jG ts)):=by show _=_;rw[R.out];exact hO.out
    have t1:(tk.sym==[40])=false:=yaw h1
    have t2:(tk.sym==[41])=true:=by rw[h2];rfl
    have z1:IntKind.i64.wrap (d-1)=d-1:=by rw[IntKind.wrap_i64];omega
    generalize tk.sym=s at c0 t1 t2
    clear h1 h2 HS HCs hkl
    exact xcz
   have t1:(tk.sym==[40])=false:=yaw h1
   have t2:(tk.sym==[41])=false:=yaw h2
   by_cases h3:tk.sym=[44]
   ·have t3:(tk.sym==[44])=true:=by rw[h3];rfl
    by_cases hd:d=0
    ·subst hd
     have R:Hid (spQ ts (k+1)=⟨0,[],out++[cur]⟩):=HS.out.trans (by unfold gK;rw[if_neg h1,if_neg h2,if_pos ⟨h3,rfl⟩])
     have RC:Hid ((spQ ts (k+1)).cur=jG ts (k+1,k+1)):=by show _=_;rw[R.out];unfold jG;simp
     have RO:Hid ((spQ ts (k+1)).out=(fs++[(F,k)]).map (jG ts)):=by show _=_;rw[R.out,List.map_append];simp only;rw[hO.out,hC.out];rfl
     have RB:Hid (∀f∈fs++[(F,k)],f.1<=f.2/\f.2<=m):=λf hf=>by
      rcases List.mem_append.1 hf with c|c
      ·exact hB.out f c
      ·simp only[List.mem_singleton] at c;subst c;exact⟨hFk,by omega⟩
     generalize tk.sym=s at c0 t1 t2 t3
     clear h1 h2 h3 HS HCs hkl
     have z0:(0:Int)<=(F:Int):=xaa
     have z1:(F:Int)<=(k:Int):=xaa
     have z2:(k:Int)<=(cap:Int):=xaa
     have e1:((k:Int)-(F:Int)).toNat=k-F:=xaa
     have z4:F<cap:=xaa
     have hCn:(wr.alloc (.cells #[.slice (some ⟨g,off+F*3,none⟩) (k-F) (cap-F)] 70)).cell? ⟨wr.heap.size,0,none⟩=some (.slice (some ⟨g,off+F*3,none⟩) (k-F) (cap-F)):=by rw[yau];rfl
     have kA:=ez 0 0 wr (.cells #[.slice (some ⟨g,off+F*3,none⟩) (k-F) (cap-F)] 70)
     have hR2:Hid ((wr.alloc (.cells #[.slice (some ⟨g,off+F*3,none⟩) (k-F) (cap-F)] 70)).ownsRow W.heap.size 70 1 u3 (fs.map (oC g off cap)).length (fs.map (oC g off cap))):=by
      rw[List.length_map];exact eO hR.out kA
     go_wp2_with (first|(at_builtin;refine lL _ rfl _ _ rfl W.heap.size _ (fs.map (oC g off cap)) rfl hR2.out ⟨wr.heap.size,0,none⟩ (some ⟨g,off+F*3,none⟩) (k-F) (cap-F) rfl hCn ?c2 ?c3 ?_)|fail)
     case c2=>rw[List.length_map];omega
     case c3=>have:=hK.out.size;simp;omega
     intro g9 cap9 n9 w9 hn9 hR9 hC9 hG9
     have R1:Hid (w9.ownsRow W.heap.size 70 1 (.slice (some ⟨g9,0,none⟩) n9 cap9) (fs++[(F,k)]).length ((fs++[(F,k)]).map (oC g off cap))):=by
      rw[List.map_append,yak]
      show World.ownsRow _ _ _ _ _ _ _
      simpa[oC] using hR9
     have R2:Hid _:=tZ (hK.out.trans kA) hR2.out hC9
     clear hR9 hC9 hG9 hn9 kA hCn
     go_wp2_with fail
     go_roundw
     case rel=>exact⟨k+1,k+1,fs++[(F,k)],by omega,yad,by go_num,by go_num,by rw[R.out],by simp;omega,RC,RO,RB,R1,R2⟩
     case measure=>simp[intOf];omega
    ·have R:Hid (spQ ts (k+1)=⟨d,cur++[tk],out⟩):=HS.out.trans (by unfold gK;rw[if_neg h1,if_neg h2,if_neg (λc=>hd c.2)])
     have RC:Hid ((spQ ts (k+1)).cur=jG ts (F,k+1)):=by show _=_;rw[R.out];exact HCur.out
     have RO:Hid ((spQ ts (k+1)).out=fs.map (jG ts)):=by show _=_;rw[R.out];exact hO.out
     have hd0:(d==0)=false:=yaw hd
     generalize tk.sym=s at c0 t1 t2 t3
     clear h1 h2 h3 HS HCs hkl hd
     exact xcz
   ·have R:Hid (spQ ts (k+1)=⟨d,cur++[tk],out⟩):=HS.out.trans (by unfold gK;rw[if_neg h1,if_neg h2,if_neg (λc=>h3 c.1)])
    have RC:Hid ((spQ ts (k+1)).cur=jG ts (F,k+1)):=by show _=_;rw[R.out];exact HCur.out
    have RO:Hid ((spQ ts (k+1)).out=fs.map (jG ts)):=by show _=_;rw[R.out];exact hO.out
    have t3:(tk.sym==[44])=false:=yaw h3
    generalize tk.sym=s at c0 t1 t2 t3
    clear h1 h2 h3 HS HCs hkl
    exact xcz
  ·obtain rfl:k=m:=xaa
   have hFm:F<k:=by
    rcases Nat.lt_or_ge F k with c|c
    ·exact c
    ·exfalso
     apply HNE.out
     rw[hC.out]
     unfold jG
     simp only
     rw[show k-F=0 by omega,List.take_zero]
   have HSeg:Hid (fx ts=(fs++[(F,k)]).map (jG ts)):=by
    show _=_
    rw[HE.out,hO.out,hC.out,List.map_append];rfl
   have z0:(0:Int)<=(F:Int):=xaa
   have z1:(F:Int)<=(k:Int):=xaa
   have z2:(k:Int)<=(cap:Int):=xaa
   have e1:((k:Int)-(F:Int)).toNat=k-F:=xaa
   have z4:F<cap:=xaa
   have hCn:(wr.alloc (.cells #[.slice (some ⟨g,off+F*3,none⟩) (k-F) (cap-F)] 70)).cell? ⟨wr.heap.size,0,none⟩=some (.slice (some ⟨g,off+F*3,none⟩) (k-F) (cap-F)):=by rw[yau];rfl
   have kA:=ez 0 0 wr (.cells #[.slice (some ⟨g,off+F*3,none⟩) (k-F) (cap-F)] 70)
   have hR2:Hid ((wr.alloc (.cells #[.slice (some ⟨g,off+F*3,none⟩) (k-F) (cap-F)] 70)).ownsRow W.heap.size 70 1 u3 (fs.map (oC g off cap)).length (fs.map (oC g off cap))):=by
    rw[List.length_map];exact eO hR.out kA
   generalize spQ ts k=Q at*
   go_wp2_with (first|(at_builtin;refine lL _ rfl _ _ rfl W.heap.size _ (fs.map (oC g off cap)) rfl hR2.out ⟨wr.heap.size,0,none⟩ (some ⟨g,off+F*3,none⟩) (k-F) (cap-F) rfl hCn ?c2 ?c3 ?_)|fail)
   case c2=>rw[List.length_map];omega
   case c3=>have:=hK.out.size;simp;omega
   intro g9 cap9 n9 w9 hn9 hR9 hC9 hG9
   have hlen:(fx ts).length=fs.length+1:=by rw[HSeg.out];simp
   have R1:Hid (w9.ownsRow W.heap.size 70 1 (.slice (some ⟨g9,0,none⟩) n9 cap9) (fs.length+1) ((fs++[(F,k)]).map (oC g off cap))):=by
    rw[List.map_append]
    show World.ownsRow _ _ _ _ _ _ _
    simpa[oC] using hR9
   have R2:Hid _:=tZ (hK.out.trans kA) hR2.out hC9
   have hn9':n9=(fx ts).length:=by rw[hlen,hn9]
   have HN9:Hid _:=hn9'
   have HLen:Hid _:=hlen
   clear hR9 hC9 hG9 hn9 kA hCn hn9' hlen
   go_wp2_with fail
   go_ret
   refine⟨some ⟨g9,0,none⟩,cap9,congrArg (λz=>Ending.returned (.slice (some ⟨g9,0,none⟩) z cap9)) HN9.out,⟨λhpos=>?_⟩,R2.out⟩
   have hrow:=R1.out
   have hgl:=eG (k:=g9) hrow (by simp[Value.ownBlock])
   refine⟨g9,rfl,hgl.1,hgl.2,λi hi=>?_⟩
   have hi2:i<(fs++[(F,k)]).length:=by rw[HSeg.out,List.length_map] at hi;exact hi
   have hcell:=World.ownsRow.cells (g:=g9) hrow rfl i (oC g off cap ((fs++[(F,k)]).getD i (0,0))) (by rw[List.getElem?_map,yah,yal hi2];rfl)
   rw[i8,Nat.zero_add] at hcell
   have hseg:(fx ts).getD i []=jG ts ((fs++[(F,k)]).getD i (0,0)):=by
    rw[HSeg.out,yah,List.getElem?_map,yah,yal hi2];rfl
   have hfb:((fs++[(F,k)]).getD i (0,0)).1<=((fs++[(F,k)]).getD i (0,0)).2/\((fs++[(F,k)]).getD i (0,0)).2<=k:=by
    have hm:(fs++[(F,k)]).getD i (0,0)∈fs++[(F,k)]:=by
     rw[yah,yal hi2]
     exact List.getElem_mem _
    rcases List.mem_append.1 hm with c|c
    ·exact hB.out _ c
    ·simp only[List.mem_singleton] at c;rw[c];exact⟨hFk,yad⟩
   generalize (fs++[(F,k)]).getD i (0,0)=f at hcell hseg hfb
   rw[hseg,AG (by rw[HL.out];exact hfb.2)]
   exact⟨_,_,hcell,(HF.out.keep R2.out).cut hfb.2,by omega⟩
theorem WS.graph {W:World}(h:WS W P B u1 u2 u3 u4 bs st){lo:Nat}(hlo:B<=lo)
  (r1:W.ownsRow lo 3 1 z1 st.ins.length (st.ins.map (Value.int .i64))) (r2:W.ownsRow lo 35 6 z2 vs.length (fp vs)) (r3:W.ownsRow lo 3 1 z3 st.outs.length (st.outs.map (Value.int .i64)))
  (a12:Apart z1 z2) (a13:Apart z1 z3) (a23:Apart z2 z3) (hP:P<lo) (h4:∀b,u4.ownBlock=some b->b<lo)
  (hW0:W0.heap.size<=lo) (k0:Mv (Mst P u1 u2 u3 u4) W0 (Mst P u1 u2 u3 u4) W) (hnb:∀i,i<bs.length->BcOK (λb=>Mst P u1 u2 u3 u4 b\/W0.heap.size<=b) W (bs.getD i Bc.zero) (st.names.getD i (.val [] 0))):
  WS (((W.setCell ⟨P,0,none⟩ z1).setCell ⟨P,1,none⟩ z2).setCell ⟨P,2,none⟩ z3) P B z1 z2 z3 u4 bs {st with vs:=vs}/\Mv (Mst P u1 u2 u3 u4) W0 (Mst P z1 z2 z3 u4) (((W.setCell ⟨P,0,none⟩ z1).setCell ⟨P,1,none⟩ z2).setCell ⟨P,2,none⟩ z3):=by
 have nb:∀{z:Value} {e s n:Nat} {xs:List Value},W.ownsRow lo e s z n xs->z.ownBlock≠some P:=λhr c=>by have:=(eG hr c).1;omega
 have n4:=h.np.2.2.2
 have ap4:∀{z:Value} {e s n:Nat} {xs:List Value},W.ownsRow lo e s z n xs->Apart z u4:=λhr k hk hu=>by have:=(eG hr hk).1;have:=h4 k hu;omega
 obtain⟨y0,y1,y2⟩:=eY W P _ _ _ h.c0 h.c1 h.c2 z1 z2 z3
 have kp:=fc W P z1 z2 z3
 have es:∀o,o≠0->o≠1->o≠2->(((W.setCell ⟨P,0,none⟩ z1).setCell ⟨P,1,none⟩ z2).setCell ⟨P,2,none⟩ z3).cell? ⟨P,o,none⟩=W.cell? ⟨P,o,none⟩:=λo h0 h1 h2=>by
  rw[eW _ _ _ _ _ _ (.inr (λe=>h2 e.symm)),eW _ _ _ _ _ _ (.inr (λe=>h1 e.symm)),eW _ _ _ _ _ _ (.inr (λe=>h0 e.symm))]
 have mv:Mv (Mst P u1 u2 u3 u4) W0 (Mst P z1 z2 z3 u4) (((W.setCell ⟨P,0,none⟩ z1).setCell ⟨P,1,none⟩ z2).setCell ⟨P,2,none⟩ z3):=by
  refine⟨k0.bad (kp.chg1 (S:=Mst P u1 u2 u3 u4) (.inl rfl)),λb hb=>?_⟩
  exact xfj
 have mvX:Mv (λb=>Mst P u1 u2 u3 u4 b\/W0.heap.size<=b) W (λb=>Mst P u1 u2 u3 u4 b\/W0.heap.size<=b) (((W.setCell ⟨P,0,none⟩ z1).setCell ⟨P,1,none⟩ z2).setCell ⟨P,2,none⟩ z3):=⟨kp.chg1 (S:=λb=>Mst P u1 u2 u3 u4 b\/W0.heap.size<=b) (.inl (.inl rfl)),λb hb=>.inl hb⟩
 have so3:∀{z:Value} {e s n:Nat} {xs:List Value},W.ownsRow lo e s z n xs->z.ownBlock≠some P->(((W.setCell ⟨P,0,none⟩ z1).setCell ⟨P,1,none⟩ z2).setCell ⟨P,2,none⟩ z3).ownsRow B e s z n xs:=λhr hn=>iq (eH (eH (eH hr hn) hn) hn) hlo
 refine⟨⟨by simpa using h.lt,λo=>by simp[h.fr o],y0,y1,y2,(es 3 xab xab xab).trans h.c3,(es 4 xab xab xab).trans h.c4,(es 5 xab xab xab).trans h.c5,(es 6 xab xab xab).trans h.c6,so3 r1 (nb r1),so3 r2 (nb r2),so3 r3 (nb r3),eH (eH (eH h.r4 n4) n4) n4,⟨nb r1,nb r2,nb r3,n4⟩,⟨a12,a13,ap4 r1,a23,ap4 r2,ap4 r3⟩,h.nl,λi hi=>?_,h.sz⟩,mv⟩
 refine((hnb i hi).mv mvX).weak (λb hb=>?_)
 exact xfj
theorem WS.old {W:World}(h:WS W0 P B u1 u2 u3 u4 bs st)(k:Kept 0 0 W0 W):∀i,i<bs.length->BcOK (λb=>Mst P u1 u2 u3 u4 b\/W0.heap.size<=b) W (bs.getD i Bc.zero) (st.names.getD i (.val [] 0)):=λi hi=>by
 have key:∀{a:Option Addr} {n:Nat} {ts:List Tok},TkR (Mst P u1 u2 u3 u4) W0 a n ts->TkR (λb=>Mst P u1 u2 u3 u4 b\/W0.heap.size<=b) W a n ts:=λht=>⟨ht.len,λhn=>by
  obtain⟨g,off,e,h1,h2⟩:=ht.at_ hn
  exact⟨g,off,e,λc=>c.elim h1 (λc=>by have:=h2.lt;omega),h2.keep k⟩⟩
 have hb:=h.nb i hi
 cases hd:st.names.getD i (.val [] 0) with
 |val nm v=>rw[hd] at hb;exact hb
 |fn nm ps e=>
  rw[hd] at hb
  obtain⟨h1,h2,h3,ts,h4,h5,h6⟩:=hb
  exact⟨h1,h2,key h3,ts,h4,h5,key h6⟩
theorem ot {W:World}{b1 b2 e2 s1 s2 n1 n2:Nat}{u:Value}{xs ys:List Value}(h1:W.ownsRow b1 e1 s1 u n1 xs)(h2:W.ownsRow b2 e2 s2 v n2 ys)(he:e1≠e2):Apart u v:=λk hk hv=>by
 rcases h1.2 with⟨c,_⟩|⟨g,c,cur,e,_,d1,_⟩
 ·rw[c] at hk;simp[Value.ownBlock] at hk
 ·rcases h2.2 with⟨c',_⟩|⟨g',c',cur',e',_,d2,_⟩
  ·rw[c'] at hv;simp[Value.ownBlock] at hv
  ·rw[e] at hk
   rw[e'] at hv
   simp[Value.ownBlock] at hk hv
   subst hk hv
   rw[d1] at d2
   cases d2
   exact he rfl
theorem m8 {W:World}(h0:WS W0 P B u1 u2 u3 u4 bs st)(k0:Kept 0 0 W0 W){a2:Option Addr}{d1 d3:Nat}
  (r1:W.ownsRow W0.heap.size 3 1 (.slice b1 st.ins.length d1) st.ins.length (st.ins.map (Value.int .i64))) (r2:W.ownsRow W0.heap.size 35 6 (.slice a2 vs.length cap) vs.length (fp vs)) (r3:W.ownsRow W0.heap.size 3 1 (.slice b3 st.outs.length d3) st.outs.length (st.outs.map (Value.int .i64))) (a13:Apart (.slice b1 st.ins.length d1) (.slice b3 st.outs.length d3))
  (hk:∀v∈vs,v.k<18446744073709551616) (hl:∀k,k<vs.length->1<=(vs.getD k Vl.zero).len/\(vs.getD k Vl.zero).len<=1000) (j:Nat) (p:Nat):
  Calls prog 129 #[.pointer (some ⟨P,0,none⟩),eR b1 st.ins.length d1 a2 vs.length cap b3 st.outs.length d3,.int .i64 (j:Int),.int .i64 (p:Int)] W λe W'=>TrO W0 P B u1 u2 u3 u4 bs (if ji vs=true then .error (5,p) else .ok ({st with vs:=vs},j)) e W':=by
 have k1:=ez 0 0 W (eP b1 st.ins.length d1 a2 vs.length cap b3 st.outs.length d3)
 have HB:Hid _:=fE W (.slice b1 st.ins.length d1) (.slice a2 vs.length cap) (.slice b3 st.outs.length d3)
 have hgs:GS W b1 st.ins.length a2 vs.length b3 st.outs.length st.ins vs st.outs:=⟨si r1 rfl,Ax r2 rfl hk,si r3 rfl⟩
 have HF:Hid _:=uU _ b1 a2 b3 _ d1 _ cap _ d3 _ _ _ (hgs.keep k1) hl
 have HK1:Hid _:=k0.trans k1
 have HR1:Hid _:=eO r1 k1
 have HR2:Hid _:=eO r2 k1
 have HR3:Hid _:=eO r3 k1
 have HA:Hid (Apart (.slice b1 st.ins.length d1) (.slice a2 vs.length cap)/\Apart (.slice b1 st.ins.length d1) (.slice b3 st.outs.length d3)/\Apart (.slice a2 vs.length cap) (.slice b3 st.outs.length d3)):=⟨ot r1 r2 xab,a13,ot r2 r3 xab⟩
 have H0:Hid _:=h0
 clear hgs hl hk k1 k0 r1 r2 r3 a13 h0
 obtain⟨r,hr⟩:∃r:Rs (LSt×Nat),r=(if ji vs=true then .error (5,p) else .ok ({st with vs:=vs},j)):=⟨_,rfl⟩
 rw[<-hr]
 have HRr:Hid _:=hr
 clear hr
 go_enter func129,ntmps129
 go_wp2_with fail
 generalize W.alloc (eP b1 st.ins.length d1 a2 vs.length cap b3 st.outs.length d3)=W1 at HB HF HK1 HR1 HR2 HR3 ⊢
 generalize W.heap.size=bx at HB ⊢
 obtain⟨_,y0,y1,y2⟩:=HB.out
 cases hb:ji vs
 ·rw[hb] at HF
  have R:Hid (r=.ok ({st with vs:=vs},j)):=HRr.out.trans (if_neg (by rw[hb];simp))
  have HGr:Hid (∀W',Kept 0 0 W1 W'->WS (((W'.setCell ⟨P,0,none⟩ (.slice b1 st.ins.length d1)).setCell ⟨P,1,none⟩ (.slice a2 vs.length cap)).setCell ⟨P,2,none⟩ (.slice b3 st.outs.length d3)) P B (.slice b1 st.ins.length d1) (.slice a2 vs.length cap) (.slice b3 st.outs.length d3) u4 bs {st with vs:=vs}/\Mv (Mst P u1 u2 u3 u4) W0 (Mst P (.slice b1 st.ins.length d1) (.slice a2 vs.length cap) (.slice b3 st.outs.length d3) u4) (((W'.setCell ⟨P,0,none⟩ (.slice b1 st.ins.length d1)).setCell ⟨P,1,none⟩ (.slice a2 vs.length cap)).setCell ⟨P,2,none⟩ (.slice b3 st.outs.length d3))):=λW' k=>
   WS.graph (H0.out.keep (HK1.out.trans k)) (lo:=W0.heap.size) (by have:=H0.out.sz;have:=H0.out.lt;omega) (eO HR1.out k) (eO HR2.out k) (eO HR3.out k) HA.out.1 HA.out.2.1 HA.out.2.2 H0.out.lt (λb hb=>(eG H0.out.r4 hb).2) yad (Mv.of (HK1.out.trans k)) (H0.out.old (HK1.out.trans k))
  have HCl:Hid (∀W',Kept 0 0 W1 W'->(W'.cell? ⟨P,0,none⟩=some u1/\W'.cell? ⟨P,1,none⟩=some u2/\W'.cell? ⟨P,2,none⟩=some u3)/\(∀o,W'.frozen? ⟨P,o,none⟩=false)/\G0 W' bx (.slice b1 st.ins.length d1) (.slice a2 vs.length cap) (.slice b3 st.outs.length d3)):=λW' k=>by
   have h:=H0.out.keep (HK1.out.trans k)
   exact⟨⟨h.c0,h.c1,h.c2⟩,h.fr,HB.out.keep k⟩
  clear hb HRr
  go_upto_region 3 with (go_at_call 114;refine yai HF.out ?_;rintro e w11 ⟨rfl,k11⟩)
  obtain⟨⟨p0,p1,p2⟩,pf,⟨_,t0,t1,t2⟩⟩:=HCl.out w11 k11
  have f0:=pf 0
  have f1:=pf 1
  have f2:=pf 2
  have HG1:Hid _:=HGr.out w11 k11
  clear y0 y1 y2 HB HF HGr HCl pf k11
  go_wp2_with fail
  go_ret
  rw[R.out]
  exact⟨rfl,_,_,_,_,HG1.out.1,HG1.out.2⟩
 ·rw[hb] at HF
  have R:Hid (r=.error (5,p)):=HRr.out.trans (if_pos hb)
  have HSt:Hid (∀W',Kept 0 0 W1 W'->_):=λW' k=>iL (H0.out.keep (HK1.out.trans k)).c5 (H0.out.keep (HK1.out.trans k)).c6 (H0.out.keep (HK1.out.trans k)).fr 5 p (Mst P u1 u2 u3 u4) (.inl rfl)
  clear hb HRr
  go_wp2_with (first
   |(go_at_call 114;refine yai HF.out ?_;rintro e w11 ⟨rfl,k11⟩)
   |(go_at_call 74;refine yai (HSt.out _ k11) ?_;rintro e w12 ⟨rfl,hbad⟩))
  go_ret
  rw[R.out]
  exact⟨rfl,hbad.c5,hbad.c6,(Mv.of (HK1.out.trans k11)).bad hbad.chg⟩
structure Sg1 (W:World)(gr i q o c:Nat)(t:Tok):Prop where
 lt:gr<W.heap.size
 at_:W.cell? ⟨gr,i,none⟩=some (.slice (some ⟨q,o,none⟩) 1 c)
 tk:TkA W q o 1 [t]
theorem Sg1.keep {W:World}{t:Tok}(h:Sg1 W gr i q o c t)(k:Kept 0 0 W W'):Sg1 W' gr i q o c t:=
 ⟨yaj h.lt k.size,(k.cell (p:=⟨gr,i,none⟩) h.lt xaa).trans h.at_,h.tk.keep k⟩
theorem Sg1.cells {W:World}{t:Tok}(h:Sg1 W gr i q o c t):W.cell? ⟨gr,i,none⟩=some (.slice (some ⟨q,o,none⟩) 1 c)/\W.cell? ⟨q,o,none⟩=some (eE t.sym)/\W.cell? ⟨q,o+1,none⟩=some (.int .i64 (t.pos:Int))/\W.cell? ⟨q,o+2,none⟩=some (eE t.text):=
 ⟨h.at_,by simpa using h.tk.c0 0 xaa,by simpa using h.tk.c1 0 xaa,by simpa using h.tk.c2 0 xaa⟩
theorem TrO.back {e:Ending}(k:Kept 0 0 W0 W1)(h:TrO W1 P B u1 u2 u3 u4 bs r e W'):TrO W0 P B u1 u2 u3 u4 bs r e W':=by
 rcases r with⟨c,p⟩|⟨st,v⟩
 ·obtain⟨h1,h2,h3,h4⟩:=h
  exact⟨h1,h2,h3,(Mv.of k).bad h4⟩
 ·obtain⟨h1,v1,v2,v3,v4,h2,h3⟩:=h
  exact⟨h1,v1,v2,v3,v4,h2,(Mv.of k).trans h3⟩
theorem TrO.ret {W:World}{e:Ending}(h:TrO W P B u1 u2 u3 u4 bs r e W'):∃x:Int,e=.returned (.int .i64 x):=by
 rcases r with⟨c,p⟩|⟨st,v⟩
 ·exact⟨-1,h.1⟩
 ·exact⟨v,h.1⟩
theorem AH {W:World}(h:WS W P B u1 u2 u3 u4 bs st)(gd:Gd st)(k:Tok)(hk:k.sym=qE\/k.sym=mW)(a:Nat)(ha:a<st.vs.length)(n:Tok)(hD:Dgs n.text)(hns:2<=ns)(hS:Sg1 W gr 1 q o c n):
  Calls prog 127 #[.pointer (some ⟨P,0,none⟩),ik k,.int .i64 (a:Int),.slice (some ⟨gr,0,none⟩) ns cp] W (TrO W P B u1 u2 u3 u4 bs (jS st k a n)):=by
 obtain⟨ks,kp,kt⟩:=k
 simp only at hk
 have HI:Hid (∀W',_):=λW'=>tT n hD W'
 have hN:=gd.n
 have hb:=mE hD yad
 rw[List.take_length] at hb
 have HB:Hid (TB (W.alloc (.cells #[eE ks,.int .i64 (kp:Int),eE kt] 74)) W.heap.size ks kp kt):=gH W ks kp kt
 have HK:Hid _:=ez 0 0 W (.cells #[eE ks,.int .i64 (kp:Int),eE kt] 74)
 have HPt:Hid (∀W' v,Kept 0 0 W W'->(1<=v.len/\v.len<=1000)->v.k<18446744073709551616->Calls prog 78 #[.pointer (some ⟨P,0,none⟩),v.agg,.int .i64 (kp:Int)] W' λe W''=>(∃x:Int,e=.returned (.int .i64 x))/\Hid (TrO W P B u1 u2 u3 u4 bs (fI st v kp) e W'')):=λW' v kk h1 h2=>yai (jV (h.keep kk) gd v h1 h2 kp) (λe W'' t=>⟨t.ret,t.back kk⟩)
 have HSt:Hid (∀W' p,Kept 0 0 W W'->_):=λW' p kk=>iL (h.keep kk).c5 (h.keep kk).c6 (h.keep kk).fr 4 p (Mst P u1 u2 u3 u4) (.inl rfl)
 have HPl:Hid (jS st ⟨ks,kp,kt⟩ a n=if ks=mW then
  if eU st a<=gz n.text then .error (4,n.pos) else fI st (eI 11 1 (a:Int) 0 (gz n.text)) kp
  else if eU st a≠1 then .error (4,kp)
  else if gz n.text<1\/1000<gz n.text then .error (4,n.pos) else fI st (eI 10 (gz n.text) (a:Int) 0 0) kp):=rfl
 have hl1:=gd.len a ha
 change 1<=eU st a/\eU st a<=1000 at hl1
 have HW:Hid _:=h
 have HS:Hid _:=hS
 obtain⟨gv,cap,e2,hgv,-⟩:=h.lenc ha
 have HL:Hid (∀W',Kept 0 0 W W'->W'.cell? ⟨P,1,none⟩=some (.slice (some ⟨gv,0,none⟩) st.vs.length cap)/\W'.cell? ⟨gv,a*6+1,none⟩=some (.int .i64 (eU st a))/\(W'.cell? ⟨gr,1,none⟩=some (.slice (some ⟨q,o,none⟩) 1 c)/\W'.cell? ⟨q,o,none⟩=some (eE n.sym)/\W'.cell? ⟨q,o+1,none⟩=some (.int .i64 (n.pos:Int))/\W'.cell? ⟨q,o+2,none⟩=some (eE n.text))):=λW' kk=>by
  obtain⟨g2,cap2,e3,_,c3⟩:=(HW.out.keep kk).lenc ha
  rw[e2] at e3
  cases e3
  exact⟨by rw[<-e2];exact(HW.out.keep kk).c1,c3,(HS.out.keep kk).cells⟩
 generalize jS st ⟨ks,kp,kt⟩ a n=r at HPl ⊢
 generalize eU st a=l at hl1 HL HPl
 generalize hN2:st.vs.length=N at*
 clear hN2 h hS gd hD HW HS e2 hgv
 unfold ik at HI ⊢
 obtain⟨nsy,np,nt⟩:=n
 simp only at HI hb HL HPl ⊢
 generalize gz nt=m at*
 go_enter func127,ntmps127
 go_upto_region 1 with fail
 change Code.wp _ _ _ _ (W.alloc (.cells #[eE ks,.int .i64 (kp:Int),eE kt] 74))
 generalize W.alloc (.cells #[eE ks,.int .i64 (kp:Int),eE kt] 74)=W1 at HB HK ⊢
 generalize W.heap.size=bx at HB ⊢
 obtain⟨y1,y2,y3,y4,y5,y6⟩:=HL.out W1 HK.out
 have b0:=HB.out.c0
 go_upto_region 3 with (go_at_call 77;refine yai (HI.out _) ?_;rintro e w2 ⟨rfl,k2⟩)
 have HK2:Hid _:=HK.out.trans k2
 have HB2:Hid _:=HB.out.keep k2
 clear y1 y2 y3 y4 y5 y6 b0 HB HK k2 HI
 obtain⟨y1,y2,y3,y4,y5,y6⟩:=HL.out w2 HK2.out
 have b0:=HB2.out.c0
 have b1:=HB2.out.c1
 clear HL
 rcases hk with hk|hk
 ·subst hk
  have HP2:Hid _:=HPl.out.trans (if_neg xab)
  unfold qE at*
  clear HPl
  by_cases h1:l=1
  ·subst h1
   have HP3:Hid _:=HP2.out.trans (if_neg xac)
   clear HP2
   by_cases h2:m<1
   ·have R:Hid _:=HP3.out.trans (if_pos (.inl h2))
    exact xcs
   ·by_cases h3:1000<m
    ·have R:Hid _:=HP3.out.trans (if_pos (.inr h3))
     exact xcs
    ·have R:Hid _:=HP3.out.trans (if_neg xaa)
     have HQ:Hid (∀W',Kept 0 0 W W'->_):=λW' kk=>HPt.out W' (eI 10 m (a:Int) 0 0) kk (by show 1<=m/\m<=1000;omega) yag
     go_upto_region 12 with fail
     exact xeg
  ·have R:Hid _:=HP2.out.trans (if_pos h1)
   have h1':(l==1)=false:=yaw h1
   exact xcs
 ·subst hk
  have HP2:Hid _:=HPl.out.trans (if_pos rfl)
  unfold mW at*
  clear HPl
  by_cases h1:l<=m
  ·have R:Hid _:=HP2.out.trans (if_pos h1)
   exact xcs
  ·have R:Hid _:=HP2.out.trans (if_neg h1)
   have HQ:Hid (∀W',Kept 0 0 W W'->_):=λW' kk=>HPt.out W' (eI 11 1 (a:Int) 0 m) kk (by show(1:Int)<=1/\(1:Int)<=1000;omega) yag
   go_upto_region 6 with fail
   exact xeg
theorem AI {W:World}(h:WS W P B u1 u2 u3 u4 bs st)(gd:Gd st)(k:Tok)(hk:k.sym=xM)(a:Nat)(ha:a<st.vs.length)(n:Tok)(hD:Dgs n.text)(hns:3<=ns)(hS:Sg1 W gr 1 q o c n)(n2:Tok)(hD2:Dgs n2.text){q2 o2 c2:Nat}(hS2:Sg1 W gr 2 q2 o2 c2 n2):
  Calls prog 127 #[.pointer (some ⟨P,0,none⟩),ik k,.int .i64 (a:Int),.slice (some ⟨gr,0,none⟩) ns cp] W (TrO W P B u1 u2 u3 u4 bs (jT st k a n n2)):=by
 obtain⟨ks,kp,kt⟩:=k
 simp only at hk
 subst hk
 unfold xM
 have HI:Hid (∀W',_):=λW'=>tT n hD W'
 have HI2:Hid (∀W',_):=λW'=>tT n2 hD2 W'
 have hN:=gd.n
 have hb:=mE hD yad
 rw[List.take_length] at hb
 have hb2:=mE hD2 yad
 rw[List.take_length] at hb2
 have HB:Hid (TB (W.alloc (.cells #[eE [112,117,116],.int .i64 (kp:Int),eE kt] 74)) W.heap.size [112,117,116] kp kt):=gH W [112,117,116] kp kt
 have HK:Hid _:=ez 0 0 W (.cells #[eE [112,117,116],.int .i64 (kp:Int),eE kt] 74)
 have HPt:Hid (∀W' v,Kept 0 0 W W'->(1<=v.len/\v.len<=1000)->v.k<18446744073709551616->Calls prog 78 #[.pointer (some ⟨P,0,none⟩),v.agg,.int .i64 (kp:Int)] W' λe W''=>(∃x:Int,e=.returned (.int .i64 x))/\Hid (TrO W P B u1 u2 u3 u4 bs (fI st v kp) e W'')):=λW' v kk h1 h2=>yai (jV (h.keep kk) gd v h1 h2 kp) (λe W'' t=>⟨t.ret,t.back kk⟩)
 have HSt:Hid (∀W' p,Kept 0 0 W W'->_):=λW' p kk=>iL (h.keep kk).c5 (h.keep kk).c6 (h.keep kk).fr 4 p (Mst P u1 u2 u3 u4) (.inl rfl)
 have HPl:Hid (jT st ⟨[112,117,116],kp,kt⟩ a n n2=if eU st a≠1 then .error (4,kp)
  else if gz n2.text<1\/1000<gz n2.text then .error (4,n2.pos)
  else if gz n2.text<=gz n.text then .error (4,n.pos) else fI st (eI 12 (gz n2.text) (a:Int) 0 (gz n.text)) kp):=rfl
 have hl1:=gd.len a ha
 change 1<=eU st a/\eU st a<=1000 at hl1
 have HW:Hid _:=h
 have HS:Hid _:=hS
 have HS2:Hid _:=hS2
 obtain⟨gv,cap,e2,hgv,-⟩:=h.lenc ha
 have HL:Hid (∀W',Kept 0 0 W W'->W'.cell? ⟨P,1,none⟩=some (.slice (some ⟨gv,0,none⟩) st.vs.length cap)/\W'.cell? ⟨gv,a*6+1,none⟩=some (.int .i64 (eU st a))/\(W'.cell? ⟨gr,1,none⟩=some (.slice (some ⟨q,o,none⟩) 1 c)/\W'.cell? ⟨q,o,none⟩=some (eE n.sym)/\W'.cell? ⟨q,o+1,none⟩=some (.int .i64 (n.pos:Int))/\W'.cell? ⟨q,o+2,none⟩=some (eE n.text))/\(W'.cell? ⟨gr,2,none⟩=some (.slice (some ⟨q2,o2,none⟩) 1 c2)/\W'.cell? ⟨q2,o2,none⟩=some (eE n2.sym)/\W'.cell? ⟨q2,o2+1,none⟩=some (.int .i64 (n2.pos:Int))/\W'.cell? ⟨q2,o2+2,none⟩=some (eE n2.text))):=λW' kk=>by
  obtain⟨g2,cap2,e3,_,c3⟩:=(HW.out.keep kk).lenc ha
  rw[e2] at e3
  cases e3
  exact⟨by rw[<-e2];exact(HW.out.keep kk).c1,c3,(HS.out.keep kk).cells,(HS2.out.keep kk).cells⟩
 generalize jT st ⟨[112,117,116],kp,kt⟩ a n n2=r at HPl ⊢
 generalize eU st a=l at hl1 HL HPl
 generalize hN2:st.vs.length=N at*
 clear hN2 h hS hS2 gd hD hD2 HW HS HS2 e2 hgv
 unfold ik at HI HI2 ⊢
 obtain⟨nsy,np,nt⟩:=n
 obtain⟨msy,mp,mt⟩:=n2
 simp only at HI HI2 hb hb2 HL HPl ⊢
 generalize gz nt=m at*
 generalize gz mt=m2 at*
 go_enter func127,ntmps127
 go_upto_region 1 with fail
 change Code.wp _ _ _ _ (W.alloc (.cells #[eE [112,117,116],.int .i64 (kp:Int),eE kt] 74))
 generalize W.alloc (.cells #[eE [112,117,116],.int .i64 (kp:Int),eE kt] 74)=W1 at HB HK ⊢
 generalize W.heap.size=bx at HB ⊢
 obtain⟨y1,y2,⟨y3,y4,y5,y6⟩,z3,z4,z5,z6⟩:=HL.out W1 HK.out
 have b0:=HB.out.c0
 go_upto_region 3 with (go_at_call 77;refine yai (HI.out _) ?_;rintro e w2 ⟨rfl,k2⟩)
 have HK2:Hid _:=HK.out.trans k2
 have HB2:Hid _:=HB.out.keep k2
 clear y1 y2 y3 y4 y5 y6 z3 z4 z5 z6 b0 HB HK k2 HI
 obtain⟨y1,y2,⟨y3,y4,y5,y6⟩,z3,z4,z5,z6⟩:=HL.out w2 HK2.out
 have b0:=HB2.out.c0
 have b1:=HB2.out.c1
 by_cases h1:l=1
 ·subst h1
  have HP3:Hid _:=HPl.out.trans (if_neg xac)
  clear HPl
  go_upto_region 14 with (go_at_call 77;refine yai (HI2.out _) ?_;rintro e w3 ⟨rfl,k3⟩)
  have HK3:Hid _:=HK2.out.trans k3
  have HB3:Hid _:=HB2.out.keep k3
  clear y1 y2 y3 y4 y5 y6 z3 z4 z5 z6 b0 b1 HB2 HK2 k3 HI2
  obtain⟨y1,y2,⟨y3,y4,y5,y6⟩,z3,z4,z5,z6⟩:=HL.out w3 HK3.out
  have b0:=HB3.out.c0
  have b1:=HB3.out.c1
  clear HL
  by_cases h2:m2<1
  ·have R:Hid _:=HP3.out.trans (if_pos (.inl h2))
   exact xdm
  ·by_cases h3:1000<m2
   ·have R:Hid _:=HP3.out.trans (if_pos (.inr h3))
    exact xdm
   ·have HP4:Hid _:=HP3.out.trans (if_neg xaa)
    clear HP3
    by_cases h4:m2<=m
    ·have R:Hid _:=HP4.out.trans (if_pos h4)
     exact xdm
    ·have R:Hid _:=HP4.out.trans (if_neg h4)
     have HQ:Hid (∀W',Kept 0 0 W W'->_):=λW' kk=>HPt.out W' (eI 12 m2 (a:Int) 0 m) kk (by show 1<=m2/\m2<=1000;omega) yag
     go_upto_region 18 with fail
     go_region_with (first
      |(go_at_call 26;refine yai (gj _ _ _ _ _ _) ?_;rintro e w4 ⟨rfl,k4⟩;have b1':=(HB3.out.keep ((eC w3).trans k4)).c1)
      |(go_at_call 78;refine yai (HQ.out _ (HK3.out.trans ((eC w3).trans k4))) ?_;rintro e w5 ⟨⟨x,rfl⟩,hT⟩))
     all_goals (go_wp2_with fail;go_ret;rw[R.out];exact hT.out)
 ·have R:Hid _:=HPl.out.trans (if_pos h1)
  have h1':(l==1)=false:=yaw h1
  clear HL
  go_wp2_with (first|(go_at_call 74;refine yai (HSt.out _ _ HK2.out) ?_;rintro e w4 ⟨rfl,hbad⟩)|fail)
  exact xel
theorem Gk {W:World}{m1 m3 e3 base:Nat}{o ln vb vc:Int}{vk:Nat}{R R':Option Nat}{g2 j:Nat}{la:Int}{d:Int}{c0 c1 c2 c5 c6 c7 c8 c9 c10 c12 c13 c14 c15 c16 c17 c18 c19:Value}(HM:Hid (MS w W b1 m1 e1 b3 m3 e3 vs ⟨o,ln,(j:Int),vb,vc,vk⟩ base R R' (some ⟨g2,0,none⟩) cap))(hbd:vs.length<=900000)(hj:j<vs.length)(hla:(vs.getD j Vl.zero).len=la):PfC 30 W (MpR w b1 m1 e1 b3 m3 e3 vs ⟨o,ln,(j:Int),vb,vc,vk⟩ base R (eI 10 la d 0 0)) c0 c1 c2 (.int .i64 d) (.pointer (some ⟨w.heap.size,0,none⟩)) c5 c6 c7 c8 c9 c10 (.pointer (some ⟨w.heap.size+1+1,0,none⟩)) c12 c13 c14 c15 c16 c17 c18 c19 c9 c10:=by
 unfold PfC
 intros
 rename_i HK
 have HC:Hid (∀W1,Kept 0 0 W W1->_):=λW1 k=>MS.call HM.out k (eI 10 la d 0 0) xaa
 have s0:=HM.out.g.c0
 have s1:=HM.out.g.c1
 have s2:=HM.out.g.c2
 have v2:=HM.out.v.c2
 exact xcf
