import Derived.Test.YtdpbpcnldpkljaaGreatP41
namespace Go.Proofs.Z
open Tryz Go.RowKit Flt
set_option maxRecDepth 1000000
set_option maxHeartbeats 0
section
attribute [local go_sem] eD eB eA
variable {P B nL cL g off m cap:Nat}{u1 u2 u3 u4:Value}{bs:List Bc}{st:LSt}{aL:Option Addr}{loc:Loc}{ts:List Tok}
theorem TrIn.seg {W:World}(h:TrIn W P B u1 u2 u3 u4 bs st aL nL loc g off m cap ts){W':World}{v1 v2 v3 v4:Value}{st':LSt}(hw:WS W' P B v1 v2 v3 v4 bs st')(w:Gw st st')(k:Mv (Mst P u1 u2 u3 u4) W (Mst P v1 v2 v3 v4) W'){o n c:Nat}{us:List Tok}(tk:TkA W' g o n us)(hn:n<=m)(hc:n<=c)(hu:∀t∈us,t∈ts):TrIn W' P B v1 v2 v3 v4 bs st' aL nL loc g o n c us where
 ws:=hw
 gd:=w.g
 nm:=h.nm.gw w
 lc:=h.lc.mv k
 ln:=h.ln
 lo:=h.lo.le w.n
 tk:=tk
 tg:=λc=>(k.new g c).elim h.tg (λc=>by have:=h.tk.lt;omega)
 m5:=by have:=h.m5;omega
 mc:=hc
 ti:=λt ht=>h.ti t (hu t ht)
 tn:=λt ht=>h.tn t (hu t ht)
theorem yo {W:World}(H:TrIn W P B u1 u2 u3 u4 bs st aL nL loc g off m cap ts){e:Ex}(hp:Pr 0 [e] ts)(h0:(ts.getD 0 Tok.zero).sym=[105,110,116])(h2:1<=m)(hN:i9 (ts.getD 0 Tok.zero).text):
  Calls prog 75 #[.pointer (some ⟨P,0,none⟩),.slice aL nL cL,.slice (some ⟨g,off,none⟩) m cap] W (TrO W P B u1 u2 u3 u4 bs (fI st ⟨1,1,0,0,0,ll (ts.getD 0 Tok.zero).text⟩ (ts.getD 0 Tok.zero).pos)):=by
 have HO1:Hid _:=fB W g off m cap ts H.tk H.m5 [43] [45]
 have HO2:Hid _:=fB W g off m cap ts H.tk H.m5 [42] [47]
 rw[j8 hp] at HO1 HO2
 have c0:=H.tk.c0 0 xaa
 have c1:=H.tk.c1 0 xaa
 have c2:=H.tk.c2 0 xaa
 have m5:=H.m5
 have mc:=H.mc
 have HW:Hid _:=H.ws
 have HG:Hid _:=H.gd
 generalize ts.getD 0 Tok.zero=t at*
 clear H hp
 obtain⟨sy,ps,tx⟩:=t
 simp only at h0 hN
 subst h0
 simp only[Nat.zero_mul,Nat.add_zero] at c0 c1 c2
 simp only
 have hl:tx.length<=16:=oP hN
 have HN:Hid _:=hN
 clear hN
 have HPt:Hid (∀W',Kept 0 0 W W'->Calls prog 78 #[.pointer (some ⟨P,0,none⟩),(⟨1,1,0,0,0,ll tx⟩:Vl).agg,.int .i64 (ps:Int)] W' λe W''=>(∃x:Int,e=.returned (.int .i64 x))/\Hid (TrO W P B u1 u2 u3 u4 bs (fI st ⟨1,1,0,0,0,ll tx⟩ ps) e W'')):=λW' kk=>yai (jV (HW.out.keep kk) HG.out ⟨1,1,0,0,0,ll tx⟩ ⟨Int.le_refl _,by show(1:Int)<=1000;decide⟩ (wz tx) ps) (λe W'' t=>⟨t.ret,TrO.back kk t⟩)
 obtain⟨r,hr⟩:∃r,r=fI st ⟨1,1,0,0,0,ll tx⟩ ps:=⟨_,rfl⟩
 rw[<-hr] at HPt ⊢
 clear hr HW HG
 go_enter func75,ntmps75
 go_upto_region 3 with (go_at_call 107;refine yai HO1.out ?_;rintro e w2 ⟨rfl,hw⟩;obtain rfl:=hw.symm)
 go_upto_region 15 with (go_at_call 107;refine yai HO2.out ?_;rintro e w2 ⟨rfl,hw⟩;obtain rfl:=hw.symm)
 go_upto_region 16 with fail
 change Code.wp _ _ _ _ (W.alloc (.cells #[eE [105,110,116],.int .i64 (ps:Int),eE tx] 74))
 have HB:Hid (TB (W.alloc (.cells #[eE [105,110,116],.int .i64 (ps:Int),eE tx] 74)) W.heap.size [105,110,116] ps tx):=gH W [105,110,116] ps tx
 have HK:Hid _:=ez 0 0 W (.cells #[eE [105,110,116],.int .i64 (ps:Int),eE tx] 74)
 generalize W.alloc (.cells #[eE [105,110,116],.int .i64 (ps:Int),eE tx] 74)=W1 at HB HK ⊢
 exact xbc
theorem yp {W:World}(H:TrIn W P B u1 u2 u3 u4 bs st aL nL loc g off m cap ts){e:Ex}(hp:Pr 0 [e] ts)(h0:(ts.getD 0 Tok.zero).sym=[100,101,99])(h2:1<=m)(hN:i9 (ts.getD 0 Tok.zero).text):
  Calls prog 75 #[.pointer (some ⟨P,0,none⟩),.slice aL nL cL,.slice (some ⟨g,off,none⟩) m cap] W (TrO W P B u1 u2 u3 u4 bs (fI st ⟨1,1,0,0,0,ll (ts.getD 0 Tok.zero).text⟩ (ts.getD 0 Tok.zero).pos)):=by
 have HO1:Hid _:=fB W g off m cap ts H.tk H.m5 [43] [45]
 have HO2:Hid _:=fB W g off m cap ts H.tk H.m5 [42] [47]
 rw[j8 hp] at HO1 HO2
 have c0:=H.tk.c0 0 xaa
 have c1:=H.tk.c1 0 xaa
 have c2:=H.tk.c2 0 xaa
 have m5:=H.m5
 have mc:=H.mc
 have HW:Hid _:=H.ws
 have HG:Hid _:=H.gd
 generalize ts.getD 0 Tok.zero=t at*
 clear H hp
 obtain⟨sy,ps,tx⟩:=t
 simp only at h0 hN
 subst h0
 simp only[Nat.zero_mul,Nat.add_zero] at c0 c1 c2
 simp only
 have hl:tx.length<=16:=oP hN
 have HN:Hid _:=hN
 clear hN
 have HPt:Hid (∀W',Kept 0 0 W W'->Calls prog 78 #[.pointer (some ⟨P,0,none⟩),(⟨1,1,0,0,0,ll tx⟩:Vl).agg,.int .i64 (ps:Int)] W' λe W''=>(∃x:Int,e=.returned (.int .i64 x))/\Hid (TrO W P B u1 u2 u3 u4 bs (fI st ⟨1,1,0,0,0,ll tx⟩ ps) e W'')):=λW' kk=>yai (jV (HW.out.keep kk) HG.out ⟨1,1,0,0,0,ll tx⟩ ⟨Int.le_refl _,by show(1:Int)<=1000;decide⟩ (wz tx) ps) (λe W'' t=>⟨t.ret,TrO.back kk t⟩)
 obtain⟨r,hr⟩:∃r,r=fI st ⟨1,1,0,0,0,ll tx⟩ ps:=⟨_,rfl⟩
 rw[<-hr] at HPt ⊢
 clear hr HW HG
 go_enter func75,ntmps75
 go_upto_region 3 with (go_at_call 107;refine yai HO1.out ?_;rintro e w2 ⟨rfl,hw⟩;obtain rfl:=hw.symm)
 go_upto_region 15 with (go_at_call 107;refine yai HO2.out ?_;rintro e w2 ⟨rfl,hw⟩;obtain rfl:=hw.symm)
 go_upto_region 16 with fail
 change Code.wp _ _ _ _ (W.alloc (.cells #[eE [100,101,99],.int .i64 (ps:Int),eE tx] 74))
 have HB:Hid (TB (W.alloc (.cells #[eE [100,101,99],.int .i64 (ps:Int),eE tx] 74)) W.heap.size [100,101,99] ps tx):=gH W [100,101,99] ps tx
 have HK:Hid _:=ez 0 0 W (.cells #[eE [100,101,99],.int .i64 (ps:Int),eE tx] 74)
 generalize W.alloc (.cells #[eE [100,101,99],.int .i64 (ps:Int),eE tx] 74)=W1 at HB HK ⊢
 exact xbc
section
variable {f:Nat}{W:World}{P B:Nat}{u1 u2 u3 u4:Value}{bs:List Bc}{st:LSt}{aL:Option Addr}{nL cL:Nat}{loc:Loc}{g off m cap:Nat}{t:Tok}{r:Rs (LSt×Nat)}
theorem Bx (H:TrIn W P B u1 u2 u3 u4 bs st aL nL loc g off m cap [t])(ht:t.sym=gm\/t.sym=iT)(h:eJ (f+1) st loc (.num t)=some r):
  Calls prog 75 #[.pointer (some ⟨P,0,none⟩),.slice aL nL cL,.slice (some ⟨g,off,none⟩) m cap] W (TrO W P B u1 u2 u3 u4 bs r):=by
 rw[eJ] at h
 have e:fI st ⟨1,1,0,0,0,ll t.text⟩ t.pos=r:=Option.some.inj h
 have hN:=H.tn t xac ht
 have hm:=H.tk.len
 have e0:[t].getD 0 Tok.zero=t:=rfl
 have h1:1<=m:=by rw[<-hm];exact yad
 rcases ht with ht|ht
 ·have k:=yo (cL:=cL) H (Pr.num (.inl ht)) (by rw[e0];exact ht) h1 (by rw[e0];exact hN)
  rw[e0,e] at k
  exact k
 ·have k:=yp (cL:=cL) H (Pr.num (.inr ht)) (by rw[e0];exact ht) h1 (by rw[e0];exact hN)
  rw[e0,e] at k
  exact k
end
end
section
variable {f P B nL g gr:Nat}{u1 u2 u3 u4:Value}{st s:LSt}{r:Rs (LSt×Nat)}{loc:Loc}{bs:List Bc}{aL:Option Addr}{es:List Ex}
theorem TrO.chg {W W':World}{e:Ending}(h:TrO W P B u1 u2 u3 u4 bs r e W'):Chg (Mst P u1 u2 u3 u4) W W':=by
 rcases r with⟨c,p⟩|⟨st,v⟩
 ·exact h.2.2.2
 ·obtain⟨_,_,_,_,_,_,k⟩:=h
  exact k.chg
theorem kj (ev:LSt->Ex->Option (Rs (LSt×Nat))):∀(es:List Ex) (st:LSt) (R:Rs (LSt×List Nat)),fF ev st es=some R->∀k,k<es.length->∀s xs,fF ev st (es.take k)=some (.ok (s,xs))->∃r,ev s (es.getD k (.num Tok.zero))=some r/\(∀f,r=.error f->R=.error f)/\(∀s2 a,r=.ok (s2,a)->fF ev st (es.take (k+1))=some (.ok (s2,xs++[a])))
 |[],_,_,_,k,hk,_,_,_=>by simp at hk
 |e::es,st,R,h,0,_,s,xs,hs=>by
  rw[List.take_zero,fF] at hs
  cases hs
  rw[fF] at h
  cases h1:ev st e with
  |none=>rw[h1] at h;cases h
  |some r=>
   rw[h1] at h
   refine⟨r,h1,λf e1=>?_,λs2 a e1=>?_⟩
   ·subst e1;cases h;rfl
   ·subst e1
    show fF ev st [e]=_
    rw[fF,h1]
    rfl
 |e::es,st,R,h,k+1,hk,s,xs,hs=>by
  rw[List.take_succ_cons,fF] at hs
  rw[fF] at h
  cases h1:ev st e with
  |none=>rw[h1] at h;cases h
  |some r0=>
   rw[h1] at h hs
   rcases r0 with f|⟨s1,a⟩
   ·cases hs
   ·simp only at h hs
    cases h2:fF ev s1 es with
    |none=>rw[h2] at h;cases h
    |some R'=>
     cases h3:fF ev s1 (es.take k) with
     |none=>rw[h3] at hs;cases hs
     |some R3=>
      rw[h3] at hs
      rcases R3 with f|⟨s3,ys⟩
      ·cases hs
      ·cases hs
       obtain⟨r,k1,k2,k3⟩:=kj ev es s1 R' h2 k (by simpa using hk) s ys h3
       refine⟨r,k1,λf e1=>?_,λs2 b e1=>?_⟩
       ·rw[h2,k2 f e1] at h
        cases h;rfl
       ·rw[List.take_succ_cons,fF,h1]
        simp only
        rw[k3 s2 b e1]
        rfl
structure ArgS (f:Nat)(W:World)(P B:Nat)(u1 u2 u3 u4:Value)(bs:List Bc)(st:LSt)(aL:Option Addr)(nL cL:Nat)(loc:Loc)(g gr:Nat)(es:List Ex):Prop where
 lt:gr<W.heap.size
 nM:¬Mst P u1 u2 u3 u4 gr
 call:∀i,i<es.length->∃o n c,W.cell? ⟨gr,i,none⟩=some (.slice (some ⟨g,o,none⟩) n c)/\∀s r W' z1 z2 z3 z4,Gw st s->eJ f s loc (es.getD i (.num Tok.zero))=some r->WS W' P B z1 z2 z3 z4 bs s->Mv (Mst P u1 u2 u3 u4) W (Mst P z1 z2 z3 z4) W'->RsG s r/\Calls prog 75 #[.pointer (some ⟨P,0,none⟩),.slice aL nL cL,.slice (some ⟨g,o,none⟩) n c] W' (TrO W' P B z1 z2 z3 z4 bs r)
theorem ArgS.cell {W:World}{cL:Nat}(h:ArgS f W P B u1 u2 u3 u4 bs st aL nL cL loc g gr es){W':World}(c:Chg (Mst P u1 u2 u3 u4) W W')(i:Nat):W'.cell? ⟨gr,i,none⟩=W.cell? ⟨gr,i,none⟩:=c.cell (p:=⟨gr,i,none⟩) h.lt h.nM
theorem ArgS.of (IH:TrC f){W0 W:World}(cL:Nat){off m cap:Nat}{ts:List Tok}(H:TrIn W0 P B u1 u2 u3 u4 bs st aL nL loc g off m cap ts)(kk:Kept 0 0 W0 W){segs:List (List Tok)}(hlo:W0.heap.size<=gr)(hgr:gr<W.heap.size)(hS:∀i,i<segs.length->∃o c,W.cell? ⟨gr,i,none⟩=some (.slice (some ⟨g,o,none⟩) (segs.getD i []).length c)/\TkA W g o (segs.getD i []).length (segs.getD i [])/\(segs.getD i []).length<=c)(hl:segs.length=es.length)(hP:∀i,i<es.length->Pr 2 [es.getD i (.num Tok.zero)] (segs.getD i []))(hn:∀i,i<segs.length->(segs.getD i []).length<=m)(hu:∀i,i<segs.length->∀t∈segs.getD i [],t∈ts):ArgS f W P B u1 u2 u3 u4 bs st aL nL cL loc g gr es where
 lt:=hgr
 nM:=H.ws.far2 hlo
 call:=λi hi=>by
  obtain⟨o,c,c1,c2,c3⟩:=hS i xaa
  refine⟨o,_,c,c1,λs r W' z1 z2 z3 z4 w e hw hM=>?_⟩
  have hpi:=hP i hi
  have hui:=hu i xaa
  exact⟨fW f s loc _ w.g (H.nm.gw w) (H.lo.le w.n) (iE hpi (λt ht=>H.ti t (hui t ht)) _ xac) r e,IH W' P B z1 z2 z3 z4 bs s aL nL cL loc g o _ c _ (H.seg hw w ((Mv.of kk).trans hM) (c2.keepC hM.chg H.tg) (hn i xaa) c3 hui) 2 _ hpi yad r e⟩
theorem FtI.lit {W W3:World}{v1 v2 v3 v4:Value}(hW:WS W3 P B v1 v2 v3 v4 bs s)(hM:Mv (Mst P u1 u2 u3 u4) W (Mst P v1 v2 v3 v4) W3)(a:Nat):FtI W (W3.alloc (.cells #[.int .i64 (a:Int)] 3)) P B u1 u2 u3 u4 bs s (.slice (some ⟨W3.heap.size,0,none⟩) 1 1) [a]:=by
 have ka:=ez 0 0 W3 (.cells #[.int .i64 (a:Int)] 3)
 have hs:=hM.chg.size
 have ob:∀b,(Value.slice (some ⟨W3.heap.size,0,none⟩) 1 1).ownBlock=some b->b=W3.heap.size:=λb hb=>by simp[Value.ownBlock] at hb;omega
 refine⟨⟨v1,v2,v3,v4,hW.keep ka,⟨(hM.keep ka).chg,λb hb=>?_⟩,λb hb c=>?_⟩,⟨rfl,.inr ⟨W3.heap.size,1,#[.int .i64 (a:Int)],rfl,hs,?_,yad,by unfold maxLen;omega,rfl,rfl⟩⟩⟩
 ·rcases hb with c|c
  ·exact hM.new b c
  ·rw[ob b c];exact .inr hs
 ·rw[ob b hb] at c;exact hW.far c
 ·simp[World.alloc,-World.alloc_eq]
theorem FtI.xs {W W':World}{o:Value}{js:List Nat}(h:FtI W W' P B u1 u2 u3 u4 bs s o js):∃a c v1 v2 v3 v4,o=.slice a js.length c/\WS W' P B v1 v2 v3 v4 bs s/\Mv (Mst P u1 u2 u3 u4) W (Mst P v1 v2 v3 v4) W'/\XsR (Mst P v1 v2 v3 v4) W' a js.length js:=by
 obtain⟨v1,v2,v3,v4,hWk,hMk,hOk⟩:=h.ex
 obtain⟨ao,co,ho⟩:=iB h.row
 refine⟨ao,co,v1,v2,v3,v4,ho,hWk,⟨hMk.chg,λb hb=>hMk.new b (.inl hb)⟩,⟨rfl,λhn0=>?_⟩⟩
 have hrow:=h.row
 rcases hrow.2 with⟨_,c⟩|⟨g,c,cur,e,b1,b2,b3,_,b5,b6⟩
 ·omega
 ·rw[ho] at e
  cases e
  have hg:g<W'.heap.size:=by
   exact xhw
  refine⟨g,0,rfl,hOk g (by rw[ho];simp[Value.ownBlock]),hg,λk hk=>?_⟩
  rw[Nat.zero_add,cell_of_row W' g _ cur _ _ b2,<-Array.getElem?_toList]
  exact xff
def km (ks:List UInt8)(k:Tok)(s:LSt)(xs:List Nat):Rs (LSt×Nat):=
 match iY s xs k.pos with
 |.error f=>.error f
 |.ok (s2,f)=>
  if ks=tH then fI s2 (eI 8 (eU s2 (f.getD 0 0)) (f.getD 0 0:Nat) (f.getD 1 0:Nat) (f.getD 2 0:Nat)) k.pos
  else if ks=uZ then fI s2 (eI 7 (eU s2 (f.getD 0 0)) (f.getD 0 0:Nat) (f.getD 1 0:Nat) 0) k.pos
  else match fI s2 (eI 4 (eU s2 (f.getD 0 0)) (f.getD 0 0:Nat) (f.getD 1 0:Nat) 0) k.pos with
   |.error f=>.error f
   |.ok (s3,p)=>fI s3 (eI 9 1 (p:Int) 0 0) k.pos
def ou (ks:List UInt8)(k:Tok)(R:Rs (LSt×List Nat)):Rs (LSt×Nat):=match R with
 |.error f=>.error f
 |.ok (s,xs)=>km ks k s xs
theorem yq {k:Tok}{a b:Ex}(hk:k.sym≠tH)(h:eJ (f+1) st loc (.key2 k a b)=some r):∃R,fF (λs e=>eJ f s loc e) st [a,b]=some R/\r=ou k.sym k R:=by
 rw[eJ] at h
 simp only[fF]
 cases h1:eJ f st loc a with
 |none=>rw[h1] at h;cases h
 |some r1=>
  rw[h1] at h
  rcases r1 with f1|⟨s1,x⟩
  ·cases h;exact⟨_,rfl,rfl⟩
  ·simp only[iK] at h ⊢
   cases h2:eJ f s1 loc b with
   |none=>rw[h2] at h;cases h
   |some r2=>
    rw[h2] at h
    rcases r2 with f2|⟨s2,y⟩
    ·cases h;exact⟨_,rfl,rfl⟩
    ·cases h
     refine⟨_,rfl,?_⟩
     show m7 s2 k x y=km k.sym k s2 [x,y]
     unfold m7 km
     cases iY s2 [x,y] k.pos with
     |error f=>rfl
     |ok q=>simp only;rw[if_neg hk];rfl
theorem yr {k:Tok}{a b c:Ex}(hk:k.sym=tH)(h:eJ (f+1) st loc (.key3 k a b c)=some r):∃R,fF (λs e=>eJ f s loc e) st [a,b,c]=some R/\r=ou k.sym k R:=by
 rw[eJ] at h
 simp only[fF]
 cases h1:eJ f st loc a with
 |none=>rw[h1] at h;cases h
 |some r1=>
  rw[h1] at h
  rcases r1 with f1|⟨s1,x⟩
  ·cases h;exact⟨_,rfl,rfl⟩
  ·simp only[iK] at h ⊢
   cases h2:eJ f s1 loc b with
   |none=>rw[h2] at h;cases h
   |some r2=>
    rw[h2] at h
    rcases r2 with f2|⟨s2,y⟩
    ·cases h;exact⟨_,rfl,rfl⟩
    ·simp only at h ⊢
     cases h3:eJ f s2 loc c with
     |none=>rw[h3] at h;cases h
     |some r3=>
      rw[h3] at h
      rcases r3 with f3|⟨s3,z⟩
      ·cases h;exact⟨_,rfl,rfl⟩
      ·cases h
       refine⟨_,rfl,?_⟩
       show se s3 k x y z=km k.sym k s3 [x,y,z]
       unfold se km
       cases iY s3 [x,y,z] k.pos with
       |error f=>rfl
       |ok q=>simp only;rw[if_pos hk]
end
section
attribute [local go_sem] eD eB eA
variable {f P B nL cL g gr cp:Nat}{u1 u2 u3 u4:Value}{bs:List Bc}{aL:Option Addr}{es:List Ex}
theorem yt {W:World}{st:LSt}{loc:Loc}(h:WS W P B u1 u2 u3 u4 bs st)(gd:Gd st)(kp:Nat)(kt:List UInt8)(hes:es.length=2)(HA:ArgS f W P B u1 u2 u3 u4 bs st aL nL cL loc g gr es)(R:Rs (LSt×List Nat))(hR:fF (λs e=>eJ f s loc e) st es=some R):
  Calls prog 113 #[.pointer (some ⟨P,0,none⟩),.slice aL nL cL,ik ⟨[109,97,120],kp,kt⟩,.slice (some ⟨gr,0,none⟩) 2 cp] W (TrO W P B u1 u2 u3 u4 bs (ou [109,97,120] ⟨[109,97,120],kp,kt⟩ R)):=by
 have HB:Hid (TB (W.alloc (.cells #[eE [109,97,120],.int .i64 (kp:Int),eE kt] 74)) W.heap.size [109,97,120] kp kt):=gH W [109,97,120] kp kt
 have HK:Hid _:=ez 0 0 W (.cells #[eE [109,97,120],.int .i64 (kp:Int),eE kt] 74)
 have HF:Hid _:=h.far
 have HW:Hid _:=h
 have HGd:Hid _:=gd
 have HA':Hid _:=HA
 have HAr:Hid _:=hR
 have HEs:Hid _:=hes
 obtain⟨r,hr⟩:∃r,r=ou [109,97,120] ⟨[109,97,120],kp,kt⟩ R:=⟨_,rfl⟩
 rw[<-hr]
 have HR:Hid _:=hr
 clear hr h gd HA hR hes
 unfold ik
 simp only
 go_enter func113,ntmps113
 go_upto_region 2 with fail
 change Code.wp _ _ _ _ (W.alloc (.cells #[eE [109,97,120],.int .i64 (kp:Int),eE kt] 74))
 generalize W.alloc (.cells #[eE [109,97,120],.int .i64 (kp:Int),eE kt] 74)=W1 at HB HK ⊢
 generalize W.heap.size=bx at HB HF ⊢
 obtain⟨r0,hr0,hE0,hO0⟩:=kj _ es st R HAr.out 0 (by rw[HEs.out];decide) st [] rfl
 obtain⟨o,n0,c0,s0,hc0⟩:=HA'.out.call 0 (by rw[HEs.out];decide)
 obtain⟨hG0,hC0⟩:=hc0 st r0 W1 u1 u2 u3 u4 (Gw.refl HGd.out) hr0 (HW.out.keep HK.out) (Mv.of HK.out)
 rw[<-HA'.out.cell (Mv.of HK.out).chg 0] at s0
 have HE:Hid _:=hE0
 have HO:Hid _:=hO0
 have HG:Hid _:=hG0
 have HC1:Hid _:=hC0
 have b0:=HB.out.c0
 clear hr0 hE0 hO0 hG0 hC0 hc0
 rcases r0 with⟨c,p⟩|⟨s1,a⟩
 ·exact xdg
 ·obtain⟨w,ha⟩:=HG.out s1 a rfl
  have ha0:¬((a:Int)<0):=xaa
  go_upto_region 7 with (go_at_call 75;refine yai HC1.out ?_;rintro e w3 ⟨rfl,v1,v2,v3,v4,hW3,hM3⟩)
  have HB3:Hid _:=HB.out.keepC hM3.chg HF.out
  obtain⟨gv,cv,e2,hgv,cl⟩:=hW3.lenc ha
  have d0:=HB3.out.c0
  have p1:=hW3.c1
  rw[e2] at p1
  have HI1:Hid _:=FtI.lit hW3 hM3 a
  have HA1:Hid (fF (λs e=>eJ f s loc e) st (es.take 1)=some (.ok (s1,[a]))):=HO.out s1 a rfl
  have HGw:Hid _:=w
  have HX1:Hid (∀i∈[a],i<s1.vs.length):=by intro i hi;simp at hi;subst hi;exact ha
  have hN:=w.g.n
  clear HG HC1 HE HO hM3 hW3 e2 hgv w b0 s0
  generalize eU s1 a=l at cl
  generalize h2:s1.vs.length=N at cl p1 ha hN
  clear h2
  go_upto_region 34 with fail
  clear cl p1 d0 HB3
  go_wp2_with fail
  go_loopw [18,19] (λvv kv W'=>∃(k:Nat) (s:LSt) (xs:List Nat),1<=k/\k<=2/\kv=.int .i64 k/\xs.length=k/\Hid (fF (λs e=>eJ f s loc e) st (es.take k)=some (.ok (s,xs)))/\Hid (FtI W1 W' P B u1 u2 u3 u4 bs s vv xs)/\Hid (Gw st s)/\Hid (∀i∈xs,i<s.vs.length)) (λ_ kv _=>2-(intOf kv).toNat)
  case atStart=>exact⟨1,s1,[a],yad,by decide,rfl,rfl,HA1,HI1,HGw,HX1⟩
  case round=>
   obtain⟨k,s,xs,hk1,hkn,rfl,hxl,hArg,hFI,hGw,hXs⟩:=hrel
   clear HA1 HI1 HGw HX1
   have HXL:Hid _:=hxl
   clear hxl
   by_cases hlt:k<2
   ·exact xai
   ·obtain rfl:k=2:=xaa
    have HRl:Hid (R=.ok (s,xs)):=by
     exact xfo
    obtain⟨aX,cX,z1,z2,z3,z4,rfl,hWk,hMk,hX⟩:=hFI.out.xs
    have HFt:Hid _:=tY hWk hGw.out.g aX xs.length cX xs hX (by rw[HXL.out];decide) hXs.out kp
    have HMk:Hid _:=hMk
    have HBk:Hid _:=HB.out.keepC hMk.chg HF.out
    have HR2:Hid (r=km [109,97,120] ⟨[109,97,120],kp,kt⟩ s xs):=by show _=_;rw[HR.out,HRl.out];rfl
    have HFG:Hid _:=λs3 fs (hft:iY s xs kp=.ok (s3,fs))=>jH hGw.out.g xs kp hXs.out hft
    have d1:=HBk.out.c1
    clear hWk hMk hX hFI HR HRl hArg hGw hXs HAr HA' HGd
    obtain⟨q,hq⟩:∃q,q=iY s xs kp:=⟨_,rfl⟩
    have HQ:Hid _:=hq
    rw[<-hq] at HFt HFG
    clear hq
    rw[HXL.out] at HFt ⊢
    rcases q with⟨c,p⟩|⟨s3,fs⟩
    ·exact xcx
    ·obtain⟨gw3,hfl,nn,hfs⟩:=HFG.out s3 fs rfl
     rw[HXL.out] at hfl
     obtain⟨fs0,fs1,rfl⟩:∃fs0 fs1,fs=[fs0,fs1]:=by
      match fs,hfl with
      |[a,b],_=>exact⟨a,b,rfl⟩
     have h0:=(hfs fs0 xac).1
     have HR3:Hid (r=fI s3 (eI 7 (eU s3 fs0) (fs0:Nat) (fs1:Nat) 0) kp):=by
      show _=_
      rw[HR2.out]
      unfold km
      rw[<-HQ.out]
      rfl
     go_upto_region 45 with (go_at_call 108;refine yai HFt.out ?_;rintro e w4 ⟨aF,cF,rfl,y1,y2,y3,y4,hW4,hM4,hX4⟩)
     obtain⟨gv,cv,e2,hgv,cl⟩:=hW4.lenc h0
     obtain⟨gf,of,e3,hgf,hgl,cf⟩:=hX4.at_ xac
     subst e2 e3
     have HM4:Hid _:=HMk.out.trans hM4
     have HBz:Hid _:=HB.out.keepC HM4.out.chg HF.out
     have hbM:¬Mst P y1 (.slice (some ⟨gv,0,none⟩) s3.vs.length cv) y3 y4 bx:=λc=>(HM4.out.new bx c).elim HF.out (λc=>by have:=HB.out.lt;omega)
     have HMW:Hid _:=(Mv.of (M:=Mst P u1 u2 u3 u4) HK.out).trans HM4.out
     have HCl:Hid (∀W',Kept 0 0 w4 W'->W'.cell? ⟨bx,0,none⟩=some (eE [109,97,120])/\W'.cell? ⟨bx,1,none⟩=some (.int .i64 (kp:Int))/\W'.cell? ⟨P,1,none⟩=some (.slice (some ⟨gv,0,none⟩) s3.vs.length cv)/\W'.cell? ⟨gv,fs0*6+1,none⟩=some (.int .i64 (eU s3 fs0))/\W'.cell? ⟨gf,of,none⟩=some (.int .i64 (fs0:Nat))/\W'.cell? ⟨gf,of+1,none⟩=some (.int .i64 (fs1:Nat))):=λW' kk=>⟨(HBz.out.keep kk).c0,(HBz.out.keep kk).c1,(hW4.keep kk).c1,(kk.cell (p:=⟨gv,fs0*6+1,none⟩) hgv xaa).trans cl,(kk.cell (p:=⟨gf,of,none⟩) hgl xaa).trans (cf 0 xac),(kk.cell (p:=⟨gf,of+1,none⟩) hgl xaa).trans (cf 1 xac)⟩
     have HCh:Hid (∀W' W'',Kept 0 0 w4 W'->Chg (Mst P y1 (.slice (some ⟨gv,0,none⟩) s3.vs.length cv) y3 y4) W' W''->W''.cell? ⟨bx,1,none⟩=some (.int .i64 (kp:Int))/\W''.cell? ⟨gf,of,none⟩=some (.int .i64 (fs0:Nat))/\W''.cell? ⟨gf,of+1,none⟩=some (.int .i64 (fs1:Nat))):=λW' W'' kk cc=>by
      exact xen
     have hN:=gw3.g.n
     have hlB:=gw3.g.lenB h0
     have HGd3:Hid _:=gw3.g
     have HW4:Hid _:=hW4
     have HBM:Hid _:=hbM
     obtain⟨a0,a1,a2,a3,a4,a5⟩:=HCl.out w4 (Kept.refl 0 0 w4)
     clear cl cf hW4 hM4 hX4 hfs HFt HMk hfl hgf hgl hgv hbM d1 HBk HM4 HXL HFG HB HQ HR2
     go_quiet (fail)
     have HKq:Hid _:=eK 0 0 w4 nq
     have HCq:Hid _:=HCl.out _ HKq.out
     have HPt:Hid (∀W',Kept 0 0 w4 W'->Calls prog 78 #[.pointer (some ⟨P,0,none⟩),(eI 7 (eU s3 fs0) (fs0:Nat) (fs1:Nat) 0).agg,.int .i64 (kp:Int)] W' λe W''=>(∃x:Int,e=.returned (.int .i64 x))/\Hid (TrO W P B u1 u2 u3 u4 bs r e W'')/\W''.cell? ⟨bx,1,none⟩=some (.int .i64 (kp:Int))/\W''.cell? ⟨gf,of,none⟩=some (.int .i64 (fs0:Nat))/\W''.cell? ⟨gf,of+1,none⟩=some (.int .i64 (fs1:Nat))):=λW' kk=>yai (jV (HW4.out.keep kk) HGd3.out (eI 7 (eU s3 fs0) (fs0:Nat) (fs1:Nat) 0) hlB yag kp) (λe W'' t=>⟨t.ret,by
      show TrO W P B u1 u2 u3 u4 bs r e W''
      rw[HR3.out]
      exact TrO.after (HMW.out.keep kk) t,HCh.out W' W'' kk t.chg⟩)
     clear HR3 HMW HCh HGd3 HW4 hlB gw3 HBz HBM HK HW HF a0 a1 a2 a3 a4 a5
     generalize eU s3 fs0=l at HCl HPt HCq ⊢
     generalize s3.vs.length=N at*
     generalize w4.drewN nq=w5 at HKq HCq ⊢
     obtain⟨a0,a1,a2,a3,a4,a5⟩:=HCq.out
     go_upto_region 49 with fail
     go_region_held3 (λw'=>w'.cell? ⟨bx,1,none⟩=some (.int .i64 (kp:Int))/\w'.cell? ⟨gf,of,none⟩=some (.int .i64 (fs0:Nat))/\w'.cell? ⟨gf,of+1,none⟩=some (.int .i64 (fs1:Nat))) (go_keep)
      (first
       |(go_at_call 26;refine yai (gj _ _ _ _ _ _) ?_;rintro e w6 ⟨rfl,k6⟩;obtain⟨t0,t1,t2,t3,t4,t5⟩:=HCl.out w6 (HKq.out.trans ((eC w5).trans k6)))
       |(go_at_call 78;refine yai (HPt.out _ (HKq.out.trans ((eC w5).trans k6))) ?_;rintro e w7 ⟨⟨xx,rfl⟩,hT,g1,g4,g5⟩))
     all_goals (go_wp2_with fail;go_ret;exact hT.out)
theorem yu {W:World}{st:LSt}{loc:Loc}(h:WS W P B u1 u2 u3 u4 bs st)(gd:Gd st)(kp:Nat)(kt:List UInt8)(hes:es.length=3)(HA:ArgS f W P B u1 u2 u3 u4 bs st aL nL cL loc g gr es)(R:Rs (LSt×List Nat))(hR:fF (λs e=>eJ f s loc e) st es=some R):
  Calls prog 113 #[.pointer (some ⟨P,0,none⟩),.slice aL nL cL,ik ⟨[115,101,108],kp,kt⟩,.slice (some ⟨gr,0,none⟩) 3 cp] W (TrO W P B u1 u2 u3 u4 bs (ou [115,101,108] ⟨[115,101,108],kp,kt⟩ R)):=by
 have HB:Hid (TB (W.alloc (.cells #[eE [115,101,108],.int .i64 (kp:Int),eE kt] 74)) W.heap.size [115,101,108] kp kt):=gH W [115,101,108] kp kt
 have HK:Hid _:=ez 0 0 W (.cells #[eE [115,101,108],.int .i64 (kp:Int),eE kt] 74)
 have HF:Hid _:=h.far
 have HW:Hid _:=h
 have HGd:Hid _:=gd
 have HA':Hid _:=HA
 have HAr:Hid _:=hR
 have HEs:Hid _:=hes
 obtain⟨r,hr⟩:∃r,r=ou [115,101,108] ⟨[115,101,108],kp,kt⟩ R:=⟨_,rfl⟩
 rw[<-hr]
 have HR:Hid _:=hr
 clear hr h gd HA hR hes
 unfold ik
 simp only
 go_enter func113,ntmps113
 go_upto_region 2 with fail
 change Code.wp _ _ _ _ (W.alloc (.cells #[eE [115,101,108],.int .i64 (kp:Int),eE kt] 74))
 generalize W.alloc (.cells #[eE [115,101,108],.int .i64 (kp:Int),eE kt] 74)=W1 at HB HK ⊢
 generalize W.heap.size=bx at HB HF ⊢
 obtain⟨r0,hr0,hE0,hO0⟩:=kj _ es st R HAr.out 0 (by rw[HEs.out];decide) st [] rfl
 obtain⟨o,n0,c0,s0,hc0⟩:=HA'.out.call 0 (by rw[HEs.out];decide)
 obtain⟨hG0,hC0⟩:=hc0 st r0 W1 u1 u2 u3 u4 (Gw.refl HGd.out) hr0 (HW.out.keep HK.out) (Mv.of HK.out)
 rw[<-HA'.out.cell (Mv.of HK.out).chg 0] at s0
 have HE:Hid _:=hE0
 have HO:Hid _:=hO0
 have HG:Hid _:=hG0
 have HC1:Hid _:=hC0
 have b0:=HB.out.c0
 clear hr0 hE0 hO0 hG0 hC0 hc0
 rcases r0 with⟨c,p⟩|⟨s1,a⟩
 ·exact xdg
 ·obtain⟨w,ha⟩:=HG.out s1 a rfl
  have ha0:¬((a:Int)<0):=xaa
  go_upto_region 7 with (go_at_call 75;refine yai HC1.out ?_;rintro e w3 ⟨rfl,v1,v2,v3,v4,hW3,hM3⟩)
  have HB3:Hid _:=HB.out.keepC hM3.chg HF.out
  obtain⟨gv,cv,e2,hgv,cl⟩:=hW3.lenc ha
  have d0:=HB3.out.c0
  have p1:=hW3.c1
  rw[e2] at p1
  have HI1:Hid _:=FtI.lit hW3 hM3 a
  have HA1:Hid (fF (λs e=>eJ f s loc e) st (es.take 1)=some (.ok (s1,[a]))):=HO.out s1 a rfl
  have HGw:Hid _:=w
  have HX1:Hid (∀i∈[a],i<s1.vs.length):=by intro i hi;simp at hi;subst hi;exact ha
  have hN:=w.g.n
  clear HG HC1 HE HO hM3 hW3 e2 hgv w b0 s0
  generalize eU s1 a=l at cl
  generalize h3:s1.vs.length=N at cl p1 ha hN
  clear h3
  go_upto_region 34 with fail
  clear cl p1 d0 HB3
  go_wp2_with fail
  go_loopw [18,19] (λvv kv W'=>∃(k:Nat) (s:LSt) (xs:List Nat),1<=k/\k<=3/\kv=.int .i64 k/\xs.length=k/\Hid (fF (λs e=>eJ f s loc e) st (es.take k)=some (.ok (s,xs)))/\Hid (FtI W1 W' P B u1 u2 u3 u4 bs s vv xs)/\Hid (Gw st s)/\Hid (∀i∈xs,i<s.vs.length)) (λ_ kv _=>3-(intOf kv).toNat)
  case atStart=>exact⟨1,s1,[a],yad,by decide,rfl,rfl,HA1,HI1,HGw,HX1⟩
  case round=>
   obtain⟨k,s,xs,hk1,hkn,rfl,hxl,hArg,hFI,hGw,hXs⟩:=hrel
   clear HA1 HI1 HGw HX1
   have HXL:Hid _:=hxl
   clear hxl
   by_cases hlt:k<3
   ·exact xai
   ·obtain rfl:k=3:=xaa
    have HRl:Hid (R=.ok (s,xs)):=by
     exact xfo
    obtain⟨aX,cX,z1,z2,z3,z4,rfl,hWk,hMk,hX⟩:=hFI.out.xs
    have HFt:Hid _:=tY hWk hGw.out.g aX xs.length cX xs hX (by rw[HXL.out];decide) hXs.out kp
    have HMk:Hid _:=hMk
    have HBk:Hid _:=HB.out.keepC hMk.chg HF.out
    have HR2:Hid (r=km [115,101,108] ⟨[115,101,108],kp,kt⟩ s xs):=by show _=_;rw[HR.out,HRl.out];rfl
    have HFG:Hid _:=λs3 fs (hft:iY s xs kp=.ok (s3,fs))=>jH hGw.out.g xs kp hXs.out hft
    have d1:=HBk.out.c1
    clear hWk hMk hX hFI HR HRl hArg hGw hXs HAr HA' HGd
    obtain⟨q,hq⟩:∃q,q=iY s xs kp:=⟨_,rfl⟩
    have HQ:Hid _:=hq
    rw[<-hq] at HFt HFG
    clear hq
    rw[HXL.out] at HFt ⊢
    rcases q with⟨c,p⟩|⟨s3,fs⟩
    ·exact xcx
    ·obtain⟨gw3,hfl,nn,hfs⟩:=HFG.out s3 fs rfl
     rw[HXL.out] at hfl
     obtain⟨fs0,fs1,fs2,rfl⟩:∃fs0 fs1 fs2,fs=[fs0,fs1,fs2]:=by
      match fs,hfl with
      |[a,b,c],_=>exact⟨a,b,c,rfl⟩
     have h0:=(hfs fs0 xac).1
     have HR3:Hid (r=fI s3 (eI 8 (eU s3 fs0) (fs0:Nat) (fs1:Nat) (fs2:Nat)) kp):=by
      show _=_
      rw[HR2.out]
      unfold km
      rw[<-HQ.out]
      rfl
     go_upto_region 45 with (go_at_call 108;refine yai HFt.out ?_;rintro e w4 ⟨aF,cF,rfl,y1,y2,y3,y4,hW4,hM4,hX4⟩)
     obtain⟨gv,cv,e2,hgv,cl⟩:=hW4.lenc h0
     obtain⟨gf,of,e3,hgf,hgl,cf⟩:=hX4.at_ xac
     subst e2 e3
     have HM4:Hid _:=HMk.out.trans hM4
     have HBz:Hid _:=HB.out.keepC HM4.out.chg HF.out
     have hbM:¬Mst P y1 (.slice (some ⟨gv,0,none⟩) s3.vs.length cv) y3 y4 bx:=λc=>(HM4.out.new bx c).elim HF.out (λc=>by have:=HB.out.lt;omega)
     have HMW:Hid _:=(Mv.of (M:=Mst P u1 u2 u3 u4) HK.out).trans HM4.out
     have HCl:Hid (∀W',Kept 0 0 w4 W'->W'.cell? ⟨bx,0,none⟩=some (eE [115,101,108])/\W'.cell? ⟨bx,1,none⟩=some (.int .i64 (kp:Int))/\W'.cell? ⟨P,1,none⟩=some (.slice (some ⟨gv,0,none⟩) s3.vs.length cv)/\W'.cell? ⟨gv,fs0*6+1,none⟩=some (.int .i64 (eU s3 fs0))/\W'.cell? ⟨gf,of,none⟩=some (.int .i64 (fs0:Nat))/\W'.cell? ⟨gf,of+1,none⟩=some (.int .i64 (fs1:Nat))/\W'.cell? ⟨gf,of+2,none⟩=some (.int .i64 (fs2:Nat))):=λW' kk=>⟨(HBz.out.keep kk).c0,(HBz.out.keep kk).c1,(hW4.keep kk).c1,(kk.cell (p:=⟨gv,fs0*6+1,none⟩) hgv xaa).trans cl,(kk.cell (p:=⟨gf,of,none⟩) hgl xaa).trans (cf 0 xac),(kk.cell (p:=⟨gf,of+1,none⟩) hgl xaa).trans (cf 1 xac),(kk.cell (p:=⟨gf,of+2,none⟩) hgl xaa).trans (cf 2 xac)⟩
     have HCh:Hid (∀W' W'',Kept 0 0 w4 W'->Chg (Mst P y1 (.slice (some ⟨gv,0,none⟩) s3.vs.length cv) y3 y4) W' W''->W''.cell? ⟨bx,1,none⟩=some (.int .i64 (kp:Int))/\W''.cell? ⟨gf,of,none⟩=some (.int .i64 (fs0:Nat))/\W''.cell? ⟨gf,of+1,none⟩=some (.int .i64 (fs1:Nat))/\W''.cell? ⟨gf,of+2,none⟩=some (.int .i64 (fs2:Nat))):=λW' W'' kk cc=>by
      obtain⟨q0,q1,_,_,q4,q5,q6⟩:=HCl.out W' kk
      have lb:bx<W'.heap.size:=(HBz.out.keep kk).lt
      have lf:gf<W'.heap.size:=yaj hgl kk.size
      exact⟨(cc.cell (p:=⟨bx,1,none⟩) lb hbM).trans q1,(cc.cell (p:=⟨gf,of,none⟩) lf hgf).trans q4,(cc.cell (p:=⟨gf,of+1,none⟩) lf hgf).trans q5,(cc.cell (p:=⟨gf,of+2,none⟩) lf hgf).trans q6⟩
     have hN:=gw3.g.n
     have hlB:=gw3.g.lenB h0
     have HGd3:Hid _:=gw3.g
     have HW4:Hid _:=hW4
     have HBM:Hid _:=hbM
     obtain⟨a0,a1,a2,a3,a4,a5,a6⟩:=HCl.out w4 (Kept.refl 0 0 w4)
     clear cl cf hW4 hM4 hX4 hfs HFt HMk hfl hgf hgl hgv hbM d1 HBk HM4 HXL HFG HB HQ HR2
     go_quiet (fail)
     have HKq:Hid _:=eK 0 0 w4 nq
     have HCq:Hid _:=HCl.out _ HKq.out
     have HPt:Hid (∀W',Kept 0 0 w4 W'->Calls prog 78 #[.pointer (some ⟨P,0,none⟩),(eI 8 (eU s3 fs0) (fs0:Nat) (fs1:Nat) (fs2:Nat)).agg,.int .i64 (kp:Int)] W' λe W''=>(∃x:Int,e=.returned (.int .i64 x))/\Hid (TrO W P B u1 u2 u3 u4 bs r e W'')/\W''.cell? ⟨bx,1,none⟩=some (.int .i64 (kp:Int))/\W''.cell? ⟨gf,of,none⟩=some (.int .i64 (fs0:Nat))/\W''.cell? ⟨gf,of+1,none⟩=some (.int .i64 (fs1:Nat))/\W''.cell? ⟨gf,of+2,none⟩=some (.int .i64 (fs2:Nat))):=λW' kk=>yai (jV (HW4.out.keep kk) HGd3.out (eI 8 (eU s3 fs0) (fs0:Nat) (fs1:Nat) (fs2:Nat)) hlB yag kp) (λe W'' t=>⟨t.ret,by
      show TrO W P B u1 u2 u3 u4 bs r e W''
      rw[HR3.out]
      exact TrO.after (HMW.out.keep kk) t,HCh.out W' W'' kk t.chg⟩)
     clear HR3 HMW HCh HGd3 HW4 hlB gw3 HBz HBM HK HW HF a0 a1 a2 a3 a4 a5 a6
     generalize eU s3 fs0=l at HCl HPt HCq ⊢
     generalize s3.vs.length=N at*
     generalize w4.drewN nq=w5 at HKq HCq ⊢
     obtain⟨a0,a1,a2,a3,a4,a5,a6⟩:=HCq.out
     go_upto_region 47 with fail
     go_region_held3 (λw'=>w'.cell? ⟨bx,1,none⟩=some (.int .i64 (kp:Int))/\w'.cell? ⟨gf,of,none⟩=some (.int .i64 (fs0:Nat))/\w'.cell? ⟨gf,of+1,none⟩=some (.int .i64 (fs1:Nat))/\w'.cell? ⟨gf,of+2,none⟩=some (.int .i64 (fs2:Nat))) (go_keep)
      (first
       |(go_at_call 26;refine yai (gj _ _ _ _ _ _) ?_;rintro e w6 ⟨rfl,k6⟩;obtain⟨t0,t1,t2,t3,t4,t5,t6⟩:=HCl.out w6 (HKq.out.trans ((eC w5).trans k6)))
       |(go_at_call 78;refine yai (HPt.out _ (HKq.out.trans ((eC w5).trans k6))) ?_;rintro e w7 ⟨⟨xx,rfl⟩,hT,g1,g4,g5,g6⟩))
     all_goals (go_wp2_with fail;go_ret;exact hT.out)
