import Derived.Test.YtamokkcfibdghaaGreatP44
namespace Go.Proofs.Z
variable {Zp:Prop}
open Tryz
set_option maxRecDepth 1000000
set_option maxHeartbeats 0
open Go.RowKit Flt
attribute [local go_sem] eG eE eD
variable {f j P I g off m cap:Nat}{aS us ts:List Tok}{am al ar X:Value}{st:LSt}{s:List UInt8}{bs:List Bc}{n k q:Tok}{e:Ex}{r:Rs LSt}
theorem Iq{W}(H:TrIn W P I am al ar X bs st none 0 [] g off m cap (k::ts))(O:k.sym=Kq)(G:Pr 2 [e] ts)(h:iU f st (.outS k e)=some r):
  Calls prog 56 #[hG P,.slice (some ⟨g,off,none⟩) m cap] W (StO W P I am al ar X r):=by
 have az:=H.tk.len;rw[yap]at az;have ah:=jg G;have bC:=H.mc;have bn:=H.m5;have av:=H.gd.o;have c0:=H.tk.c0 0 xaa;have c1:=H.tk.c1 0 xaa;rw[show(k::ts).getD 0 hN=k from rfl]at c0 c1;rw[O]at c0;rw[show Kq=[111,117,116] from rfl]at c0;have p2:=H.ws.c2;obtain⟨a3,cb,ak⟩:=ju H.ws.r3;have bx:V _:=H.ws;have cA:V _:=H.gd;simp only[Nat.zero_mul,Nat.add_zero]at c0 c1;simp only[iU]at h;by_cases ai:50<=st.outs.length
 ·rw[hK ai]at h;have HR:V _:=(hL h).symm;have b3:V _:=jK H.ws.c5 H.ws.c6 H.ws.fr 5 k.pos (Mst P am al ar X) (.inl rfl);have R:(50:Int)<=(st.outs.length:Int):=xaa;clear H h;subst ak;generalize st.outs.length=l at*;generalize k.pos=K at*;go_enter func56,ntmps56;go_wp2_with (go_at_call 92;refine yai b3.o ?_;rintro e aX ⟨rfl,F⟩);refine yay (v:=.tuple #[]) (by simp[results,results56,go_sem]) rfl ?_;rw[HR.o];exact⟨rfl,F.c5,F.c6,F.chg⟩
 rw[hJ ai]at h;cases ab:eP f st [] e with
 |none=>rw[ab]at h;cases h
 |some aC=>
  rw[ab]at h;have HR:V _:=(hL h).symm;have b1:=jB G (λt ht=>H.ti t (by simp[ht])) e xac;have bq:=gC f st [] e H.gd H.nm H.lo b1 aC ab
  have ad:=H.sub H.ws (Gw.refl H.gd) (Mv.refl _ _) 1 m yad ts (by
   rw[List.drop_succ_cons,List.drop_zero,yao xaa]) (cap':=cap-1) xaa
  have bl:V _:=trc f W P I am al ar X bs st none 0 0 [] g _ _ _ ts ad 2 e G yad aC ab;have R:¬(50:Int)<=(st.outs.length:Int):=xaa;have a5:V _:=bq;clear ad bq H h ab;subst ak;generalize an:st.outs.length=l at*;have u:V _:=an;clear an;generalize k.pos=K at*;rcases aC with⟨c,p⟩|⟨s,v⟩
  ·go_enter func56,ntmps56;go_wp2_with (go_at_call 93;refine yai bl.o ?_;rintro e aX ⟨rfl,bi⟩);refine yay (v:=.tuple #[]) (by simp[results,results56,go_sem]) rfl ?_;rw[HR.o];exact⟨rfl,bi⟩
  obtain⟨w,aL⟩:=a5.o s v rfl;have cR:0<=(v:Int):=xaa;have cn:V _:=w.o;go_enter func56,ntmps56;go_upto_region 6 with (go_at_call 93;refine yai bl.o ?_;rintro e aX ⟨rfl,bc,bd,bg,Z,aM,bp⟩);have aR:=aM.c2;have bH:=ez 0 0 aX (.cells #[hI v] 3);have i:V _:=aM.keep bH;have cl:(aX.alloc (.cells #[hI v] 3)).cell? ⟨aX.heap.size,0,none⟩=some (hI v):=by rw[yau];rfl
  have aP:V _:=bp.keep bH;have aB:V (I<=aX.heap.size):=by show _<=_;have:=aM.sz;have:=aM.lt;omega
  have aw:V _:=w.g.o;clear aM bp c0 c1 p2 bl a5 w;go_wp2_with (first|(at_builtin;refine gn _ rfl _ _ rfl I _ s.outs (by rfl) i.o.r3 ⟨aX.heap.size,0,none⟩ (v:Int) (by rfl) cl ?c2 ?c3 ?_)|fail)
  case c2=>have:=aw.o;omega
  case c3=>have:=aB.o;simp;omega
  intro g9 cap9 n9 bo bS bZ ag cj;obtain⟨(o:V _),aa⟩:=i.o.outs_ (n9:=n9) (cap9:=cap9) (g9:=g9) (zs:=s.outs++[(v:Int)]) ag (by rw[bS];simp) (by rw[List.map_append];exact bZ) (cj.imp id (λe=>by rw[e];simp));have aF:=i.o.lt;have aY:=(ag.cell (p:=⟨P,2,none⟩) aF i.o.np.2.2.1).trans i.o.c2;have a0:=(ag.frozen (p:=⟨P,2,none⟩) aF i.o.np.2.2.1).trans (i.o.fr 2);have a8:V _:=aP.o.trans aa;clear aa ag bZ cj bS bH cl i aP;go_wp2_with fail;refine yay (v:=.tuple #[]) (by simp[results,results56,go_sem]) rfl ?_;rw[HR.o];exact⟨rfl,_,_,_,_,_,o.o,a8.o⟩
theorem Of{ah k}(O:k<ah.length)(B:(ah.getD k (.val [] 0)).nm=s)(R:∀j,j<k->(ah.getD j (.val [] 0)).nm≠s):KJ ah s=k:=by
 unfold KJ;rw[List.findIdx_eq O];have e:∀j (hj:j<ah.length),ah.getD j (.val [] 0)=ah[j]:=λj hj=>by simp_all
 grind
theorem K9(g:Gd st)(i s v):Gd (st.setV i s v):=⟨g.n,g.c,g.ok,g.k,g.i,g.o,by show(st.names.set i _).length<=5000;rw[List.length_set];exact g.m⟩
theorem La(h:NmOK st)(i s){v}(aL:v<st.vs.length):NmOK (st.setV i s v):=λb hb=>by
 have K:b∈st.names.set i _:=hb
 rcases List.mem_or_eq_of_mem_set K with c|c
 ·exact h b c
 ·subst c;exact aL
theorem Ir(M W):LcR M W none 0 []:=⟨rfl,λh=>by omega⟩
theorem TrIn.later{W bh Q u}(h:TrIn W P I am al ar X bs st bh Q u g off m cap ts){W' bc bd bg Z aw N}(S:WS W' P I bc bd bg Z aw N)(H:Gd N)(aQ:NmOK N)(k:Mv (Mst P am al ar X) W (Mst P bc bd bg Z) W')(i)(hi:i<m)(us)(aJ:us=ts.drop i):TrIn W' P I bc bd bg Z aw N none 0 [] g (off+i*3) (m-i) (cap-i) us where
 ws:=S
 gd:=H
 nm:=aQ
 lc:=Ir _ _
 ln:=Nat.zero_le _
 lo:=λb hb=>by cases hb
 tk:=(h.tk.keepC k.chg h.tg).in_ i m us (by rw[aJ,yao (by rw[List.length_drop,h.tk.len];exact yad)]) yad
 tg:=λc=>(k.new g c).elim h.tg (λc=>hR h.tk.lt)
 m5:=hR h.m5
 mc:=hR h.mc
 ti:=λt ht=>h.ti t (by grind)
 tn:=λt ht=>h.tn t (by grind)
theorem Is{W i}(H:TrIn W P I am al ar X bs st none 0 [] g off m cap (k::i::n::q::ts))(O:k.sym=Kr)(hi:i.sym=iK)(G:Pr 2 [e] ts)(h:iU f st (.rep i n e)=some r):
  Calls prog 56 #[hG P,.slice (some ⟨g,off,none⟩) m cap] W (StO W P I am al ar X r):=by
 have az:=H.tk.len;simp only[yap]at az;have ah:=jg G;have bC:=H.mc;have bn:=H.m5;have bq:bs.length<=100000:=by rw[H.ws.nl];have:=H.gd.m;omega
 have c0:=H.tk.c0 0 xaa;have bK:=H.tk.c0 1 xaa;have cq:=H.tk.c1 1 xaa;have ch:=H.tk.c2 1 xaa;have Y:=H.tk.c1 2 xaa;have U:=H.tk.c2 2 xaa;rw[show(k::i::n::q::ts).getD 0 _=k from rfl]at c0;rw[show(k::i::n::q::ts).getD 1 _=i from rfl]at bK cq ch;rw[show(k::i::n::q::ts).getD 2 _=n from rfl]at Y U;rw[O]at c0;rw[show Kr=[114,101,112,101,97,116] from rfl]at c0;have bf:=H.ti i xac hi;have bX:V _:=λW'=>zN i bf W';have bl:=pQ bf yad;rw[yao yad]at bl;have u:V _:=H;have b1:=jB G (λt ht=>H.ti t (by simp[ht])) e xac;have bT:V _:=G;have au:V _:=b1;have aK:V _:=rF H.ws.c3 H.ws.r4 bq n.text;have z:=H.ws.c3;have B:V _:=mn H.ws.r4;have b3:V (∀W',Kept 0 0 W W'->∀c p,_):=λW' ap c p=>jK (H.ws.keep ap).c5 (H.ws.keep ap).c6 (H.ws.keep ap).fr c p (Mst P am al ar X) (.inl rfl);have aP:V (∀W',Kept 0 0 W W'->_):=λW' ap=>(ap.cell (p:=⟨g,off+3+1,_⟩) H.tk.lt xaa).trans cq;obtain⟨a4,cb,a6⟩:=jM H.ws.r4;simp only[Nat.zero_mul,Nat.add_zero,Nat.one_mul]at c0 bK cq ch Y U;simp only[iU]at h;have HR:V _:=h;clear h H G b1 bf hi O;obtain⟨bL,bA,bM⟩:=i;obtain⟨bJ,ab,Q⟩:=n;unfold jb at bX;simp only at*;subst a6;generalize bH:iH _=K at*;clear bH;go_enter func56,ntmps56;go_upto_region 9 with (go_at_call 94;refine yai aK.o ?_;rintro e af ⟨R,rfl,bu,S⟩;obtain rfl:=S.symm);clear aK;rcases bu with⟨ao,bY,rfl,a9,b8⟩|⟨rfl,hn⟩
 ·have bk:V _:=oD u.o.ws bY a9 b8;have l:V _:=u.o.ws.nb _ bY;have bg:V (KJ _ Q=ao):=Of (hV u.o.ws.nl bY) (by rw[<-vH (u.o.ws.nb _ bY)];exact a9) (λj hj=>by rw[<-vH (u.o.ws.nb j xaa)];exact b8 j hj);obtain⟨cg,bR,e4,_,_,_,bV⟩:=B.o xaa;cases e4;obtain⟨_,d1,_,_,_⟩:=bV _ bY;have aO:¬((ao:Int)<0):=xaa;have HD:V _:=(show st.names.getD _ (.val [] 0)=st.names.getD ao _ from rfl)
  generalize f6:st.names.getD ao _=aA at bk l;have ej:V _:=f6;clear f6 HD;generalize aN:bs.getD ao _=b at d1 l;clear aN;have bN:V _:=bY;cases aA with
  |fn aQ aS ae=>
   have w:=l.o.2.1;rw[w]at d1
   have aJ:V (r=.error (3,ab)):=by
    have h:=HR.o;rw[bk.o]at h;exact(hL h).symm
   have b0:V _:=b3.o W (Kept.refl 0 0 W) 3 ab;clear a9 b8 bV l B b3;generalize bs.length=nn at*;go_wp2_with (go_at_call 92;refine yai b0.o ?_;rintro e aX ⟨rfl,F⟩);refine yay (v:=.tuple #[]) (by simp[results,results56,go_sem]) rfl ?_;rw[aJ.o];exact⟨rfl,F.c5,F.c6,F.chg⟩
  |val aQ ay=>
   have w:=l.o.2.1
   have cT:V (aQ=Q):=by
    have:=vH (u.o.ws.nb _ bY);rw[ej.o]at this;exact this.symm.trans a9
   rw[w]at d1;clear a9 b8 bV l B;have aT:=bY;generalize bF:bs.length=nn at z bY bq;go_upto_region 12 with (go_at_call 95;refine yai (bX.o _) ?_;rintro e aX ⟨rfl,aM⟩);have aV:V _:=aM;clear aM c0 bK cq ch Y U d1 z bX;by_cases aH:100<K
   ·have aJ:V (r=.error (5,bA)):=by
     have h:=HR.o;rw[bk.o]at h;simp only[hK aH]at h;exact(hL h).symm
    have bG:V _:=b3.o _ aV.o 5 bA;have cq:=aP.o _ aV.o;clear b3 aP;go_wp2_with (go_at_call 92;refine yai bG.o ?_;rintro e bm ⟨rfl,F⟩);refine yay (v:=.tuple #[]) (by simp[results,results56,go_sem]) rfl ?_;rw[aJ.o];exact⟨rfl,F.c5,F.c6,(Mv.of aV.o).bad F.chg⟩
   obtain⟨bQ,rfl⟩:∃bQ:Nat,K=bQ:=⟨K.toNat,by omega⟩
   have aJ:V (nR f e ao Q bQ st=some r):=by
    have h:=HR.o;rw[bk.o]at h;simp only[hJ aH]at h;rw[bg.o,Int.toNat_natCast]at h;exact h
   have N:V (st.names.getD ao (.val [] 0)=.val Q ay):=by show _=_;rw[ej.o,cT.o]
   have bo:V (∀W' aw aZ be bz bE s,WS _ P I aZ _ _ _ aw s->Gd s->NmOK s->Mv _ W _ W'->∀aC,eP f s _ e=some _->RsG s _/\Calls _ _ _ _ _):=λW' aw aZ be bz bE s S aW ag C aC a5=>⟨gC f s _ e aW ag (λb hb=>by cases hb) au.o _ a5,trc f _ P I _ be bz bE _ s _ 0 0 _ g _ _ _ _ (u.o.later S aW ag C 4 xaa _ rfl) 2 e bT.o yad aC a5⟩
   have ai:V _:=u.o.ws.keep aV.o;have bd:V _:=u.o.gd;have bj:V _:=u.o.nm;clear HR bg bk ej b3 aP cT bT au u;go_wp2_with fail;go_loopw [8] (λnv W'=>∃(j:Nat) (s:LSt) (aw:List Bc) (aZ be bz bE:Value) (bb:Nat),j<=bQ/\nv=hI j/\V (WS W' P I aZ be bz bE aw s)/\V (Mv (Mst P am al ar (hH cg bs.length cb)) W (Mst P aZ be bz bE) W')/\V (nR f e ao Q (bQ-j) s=some r)/\V (Gd s)/\V (NmOK s)/\V (aw.length=bs.length)/\V (s.names.getD ao (.val [] 0)=.val Q bb)) (λnv _=>bQ-(intOf nv).toNat)
   case atStart=>exact⟨0,_,_,_,_,_,_,_,Nat.zero_le _,rfl,ai,(show V _ from Mv.of aV.o),aJ,bd,bj,(show V _ from rfl),N⟩
   case round=>
    obtain⟨j,s,aw,aZ,be,bz,bE,bb,hj,rfl,aR,ak,aD,bw,aI,aj,br⟩:=hrel;clear aJ N ai bd bj;by_cases aF:j<bQ
    ·cases x:eP f s [] e with
     |none=>
      exfalso;have h:=aD.o;rw[show bQ-j=(bQ-j-1)+1 by omega,nR,x]at h;cases h
     |some aC=>
      obtain⟨aG,bp⟩:=bo.o _ _ _ _ _ _ s aR.o bw.o aI.o ak.o _ x;have aq:V _:=aG;have av:V _:=bp;have bc:V _:=aD.o;rw[show bQ-j=(bQ-j-1)+1 by omega,nR,x]at bc;clear aG bp x aD;rcases aC with⟨c,p⟩|⟨ax,v⟩
      ·have aJ:V _:=(hL bc.o).symm;go_wp2_with (go_at_call 93;refine yai av.o ?_;rintro e bm ⟨rfl,bi⟩);refine yay (v:=.tuple #[]) (by simp[results,results56,go_sem]) rfl ?_;rw[aJ.o];exact⟨rfl,bi.1,bi.2.1,ak.o.bad bi.2.2⟩
      obtain⟨aB,aL⟩:=aq.o _ v rfl;have cR:¬((v:Int)<0):=xaa;have an:V (ax.names.getD ao (.val [] 0)=.val Q bb):=by show _=_;rw[aB.m];exact br.o
      have cw:V _:=K9 aB.g ao Q v;have ad:V _:=La (NmOK.gw aI.o aB) ao Q aL;have Z:V (nR f e ao Q (bQ-(j+1)) (ax.setV ao Q v)=some r):=by show _=_;rw[show bQ-(j+1)=bQ-j-1 by omega];exact bc.o
      go_upto_region 19 with (go_at_call 93;refine yai av.o ?_;rintro e bm ⟨rfl,aU,aY,bW,b9,bv,bB⟩);obtain⟨ek,bD,bx,ba,co,a7,aa⟩:=bv.setv (v:=v) (hU aj.o aT) an.o;have b2:=bv.c3;rw[bx,aj.o,bF]at b2;have a0:=(mn bv.r4 (hW aj.o))
      obtain⟨cI,bI,J,_,_,_,bV⟩:=a0;have cz:=(bV _ (hU aj.o aT)).2.2.1;rw[bx]at J;cases J;have o:V _:=a7;have a8:V _:=(ak.o.trans bB).trans aa;have y:V ((aw.set ao {aw.getD ao hO with val:=v}).length=bs.length):=by show _=_;rw[List.length_set];exact aj.o
      have bh:V ((ax.setV ao Q v).names.getD ao (.val [] 0)=.val Q v):=by
       show(ax.names.set ao _).getD ao _=_;rw[rL _ _ _ _ (by rw[<-bv.nl,aj.o];exact aT)]
      clear bV a7 aa bv bB ak aR av aq bc bw aI br aB ba;go_wp2_with fail;go_roundw
      case rel=>exact⟨j+1,ax.setV ao Q v,_,aU,aY,bW,b9,v,by omega,by go_num,o,a8,Z,cw,ad,y,bh⟩
      case measure=>simp[intOf];omega
    obtain rfl:j=bQ:=xaa
    have aJ:V (r=.ok s):=by
     have h:=aD.o;rw[Nat.sub_self,nR]at h;exact(hL h).symm
    clear aD bo;go_wp2_with fail;refine yay (v:=.tuple #[]) (by simp[results,results56,go_sem]) rfl ?_;rw[aJ.o];exact⟨rfl,_,_,_,_,_,aR.o,ak.o⟩
 have aJ:V (r=.error (3,ab)):=by
  have h:=HR.o;rw[pd u.o.ws hn]at h;exact(hL h).symm
 have b0:V _:=b3.o W (Kept.refl 0 0 W) 3 ab;clear hn B b3 z;go_wp2_with (go_at_call 92;refine yai b0.o ?_;rintro e aX ⟨rfl,F⟩);refine yay (v:=.tuple #[]) (by simp[results,results56,go_sem]) rfl ?_;rw[aJ.o];exact⟨rfl,F.c5,F.c6,F.chg⟩
theorem Og:(prog.info? 123).map (λi=>(i.zero,i.size,i.bytes))=some (some (.agg #[.string ⟨#[]⟩,.bool false,hI 0,.slice none 0 0,.slice none 0 0]),5,80):=by kernel_rfl
theorem nG:∃bK,prog.info? 123=some bK/\bK.zero=some (.agg #[.string ⟨#[]⟩,.bool false,hI 0,.slice none 0 0,.slice none 0 0])/\bK.size=5/\bK.bytes=80:=by
 have h:=Og;simp_all
theorem It(w:World)(b:Bc)(m):∀j u,b.cells[j]? =some u->((w.alloc (.cells #[eN b.nm,.bool b.fn,hI b.val,.slice b.pa b.pn b.pc,.slice b.ba b.bn b.bc] 123)).drewN m).cell? ((⟨w.heap.size,0,none⟩:Addr).add j)=some u:=λj u aJ=>
 World.news_of_block (w:=w.alloc (.cells #[eN b.nm,.bool b.fn,hI b.val,.slice b.pa b.pn b.pc,.slice b.ba b.bn b.bc] 123)) (t:=123) (fr:=(0,0)) (cs:=#[eN b.nm,.bool b.fn,hI b.val,.slice b.pa b.pn b.pc,.slice b.ba b.bn b.bc]) (yE _ _) j u aJ
theorem Oh(b:Bc):∀u∈b.cells,u.oneCell'=true:=λu aJ=>by
 simp only[Bc.cells,List.mem_cons,List.not_mem_nil,or_false]at aJ
 rcases aJ with rfl|rfl|rfl|rfl|rfl<;>rfl
theorem pU{W}(h:WS W P I am al ar X bs st)(ah:bs.length<=100000)(bb:i9 st.names s=none):Calls prog 94 #[hG P,eN s] W λe W'=>e=.returned (hI (-1))/\W'=W:=
 yai (rF h.c3 h.r4 ah s) (λe W' ⟨r,ae,bu,S⟩=>by
  rcases bu with⟨ao,bY,rfl,a9,b8⟩|⟨rfl,hn⟩
  ·rw[oD h bY a9 b8]at bb;cases bb
  grind)
theorem pV{W}(h:WS W P I am al ar X bs st)(ah:bs.length<=100000){d}(bb:i9 st.names s=some d):Calls prog 94 #[hG P,eN s] W λe W'=>∃k:Nat,e=.returned (hI k)/\W'=W:=
 yai (rF h.c3 h.r4 ah s) (λe W' ⟨r,ae,bu,S⟩=>by
  rcases bu with⟨ao,bY,rfl,a9,b8⟩|⟨rfl,hn⟩<;>grind [pd])
theorem ut{r d}(h:i9 st.names n.text=some d):pr st n r=some (.error (3,n.pos)):=by unfold pr;rw[h]
theorem uu{r}(h:i9 st.names n.text=none):pr st n r=r:=by unfold pr;rw[h]
theorem dA.qeh(h:Zp:=by
 clear b5 Y U;cases ak:i9 st.names Q with
 |some d=>
  exact qam
 |none=>
  exact qgj):Zp:=h
theorem dA.qgg(h:Zp:=by
 rw[show(k::n::q::ts).getD 0 _=k from rfl]at c0;rw[show(k::n::q::ts).getD 1 _=n from rfl]at b5 Y U;rw[O,show Kp=[108,101,116] from rfl]at c0;exact qhi):Zp:=h
theorem dA.qgk(h:Zp:=by
 have aJ:V ((eP f st [] e).map (qO Q)=some r):=by
  have h:=HR.o;rw[uu HFn.o]at h;exact h
 cases x:eP f st [] e with
 |none=>exfalso;have h:=aJ.o;grind
 |some aC=>
  have J:V (r=qO Q aC):=by
   have h:=aJ.o;rw[x]at h;exact(hL h).symm
  have aG:=gC f _ _ e u.o.gd u.o.nm (λb hb=>by cases hb) au.o _ x;have aq:V _:=aG;have av:V _:=trc f _ P I _ _ _ _ _ _ _ 0 0 _ g _ _ _ _ (u.o.later bb.o u.o.gd u.o.nm (Mv.of HK.o) 3 xaa _ rfl) 2 e bT.o yad _ x;clear aG x aJ HR HFn bT au;rcases aC with⟨c,p⟩|⟨s,v⟩
  ·go_wp2_with (go_at_call 93;refine yai av.o ?_;rintro e aX ⟨rfl,bi⟩);refine yay (v:=.tuple #[]) (by simp[results,results56,go_sem]) rfl ?_;rw[J.o];exact⟨rfl,bi.1,bi.2.1,(Mv.of HK.o).bad bi.2.2⟩
  obtain⟨w,aL⟩:=aq.o s v rfl;have cR:(0:Int)<=v:=xaa;have ch:=w.g;have cy:V (r=.ok _):=J.o;go_upto_region 49 with (go_at_call 93;refine yai av.o ?_;rintro e aj ⟨rfl,bc,bd,bg,Z,C,bp⟩);have cn:V _:=(Mv.of HK.o).trans bp;have ci:V _:=aI.o.keepC bp.chg aU.o;have cw:¬Mst P _ _ _ _ _:=λc=>(bp.new _ c).elim aU.o (λc=>hR aI.o.lt);clear av aq J bp u bb N aA aI w;obtain⟨bK,be,bU,bO,bR⟩:=nG;have b2:=C.c3;have co:=C.fr 3;have a5:=C.lt;have cC:I<=aj.heap.size:=hR C.sz
  obtain⟨a4,cb,e4⟩:=jM C.r4;have an:V (Z.ownBlock≠some P/\Z.ownBlock≠some _):=⟨C.np.2.2.2,λc=>cw (.inr (.inr (.inr (.inr c))))⟩
  exact qhq):Zp:=h
theorem dA.qhj(h:Zp:=by
 have bT:V _:=G;have au:V _:=b1;clear h H G b1 O;exact qic):Zp:=h
theorem dA.qhr(h:Zp:=by
 go_upto_region 50 with fail
 go_region_law
  ((refine step_append_lies _ rfl _ _ _ rfl I 123 _ _ 5 _ underlying88 be bU bO bR rfl xab _ _ _ (by simp[Act.eval]) (mO aT.o 1 _) _ 1 1 (Bc.cells ⟨_,_,_,_,0,0,_,0,0⟩) (by simp[Act.eval]) rfl (It _ _ _) (Oh _) xab (by unfold maxLen;omega) xaa yaf _ rfl ?_;intro g9 cap9 bo bB bw b7 cA;have s0:=lI bw a5 an.o.1 b2;have bG:=far2 bw a5 an.o.1 co;have ax:=lI bw cf an.o.2 a6))
 all_goals
  have bu:=b7.imp id (λe=>Nat.le_of_eq e.symm)
  have aZ:=(ez 0 0 aj (.cells #[eN Q,.bool false,hI v,.slice none 0 0,.slice none 0 0] 123)).trans (eM 0 0 _ 1)
  obtain⟨(o:V _),aa⟩:=(bE.o.keep aZ).nms_ (d:=.val Q v) (n9:=bQ+1) (i7 bw) (by rw[yak,bD.o];rfl) (by rw[xV,xW];exact bB) bu (λ_=>⟨rfl,rfl,rfl⟩)
  have a8:V _:=(cn.o.keep aZ).trans aa
  clear aa bu aZ bB bw b7 cA s0 bG ax
  go_wp2_with fail
  refine yay (v:=.tuple #[]) (by simp[results,results56,go_sem]) rfl ?_
  rw[cy.o]
  exact⟨rfl,_,_,_,_,_,o.o,a8.o⟩):Zp:=h
open dA in
theorem Iu{W}(H:TrIn W P I am al ar X bs st none 0 [] g off m cap (k::n::q::ts))(O:k.sym=Kp)(G:Pr 2 [e] ts)(h:iU f st (.letS n e)=some r):
  Calls prog 56 #[hG P,.slice (some ⟨g,off,none⟩) m cap] W (StO W P I am al ar X r):=by
 have ah:=jg G;have b1:=jB G (λt ht=>H.ti t (by simp[ht])) e xac;have az:=H.tk.len;simp only[yap]at az;exact qgf
theorem dB.qeh(h:Zp:=by
 clear b5 Y U;cases ak:i9 st.names Q with
 |some d=>
  exact qam
 |none=>
  exact qgj):Zp:=h
theorem dB.qgg(h:Zp:=by
 rw[show([k,n,c,l]).getD 0 _=k from rfl]at c0;rw[show([k,n,c,l]).getD 1 _=n from rfl]at b5 Y U;rw[O,show kIn=[105,110] from rfl]at c0;exact qhi):Zp:=h
theorem dB.qgk(h:Zp:=by
 obtain⟨bN,bP,b8⟩:=ad.o _ HK.o
 have aJ:V (r=inR st ⟨bJ,ab,Q⟩ ⟨bz,y,bV⟩):=by
  have h:=HR.o;rw[uu HFn.o]at h;exact(hL h).symm
 clear HR HFn;go_upto_region 43 with (go_at_call 95;refine yai (bX.o _) ?_;rintro e aX ⟨rfl,aM⟩);have aV:V _:=HK.o.trans aM;have cd:V _:=aI.o.keep aM;have ai:V _:=bb.o.keep aM;obtain⟨_,bP,_⟩:=ad.o _ aV.o;have N:=cd.o.c1;have aR:V _:=aU.o;clear aM bX bb HK bN b8 aA c0
 have p:V (r=if K<1\/1000<K then .error (4,y)else if 20<=st.ins.length then .error (5,ab)else qO Q (fZ {st with ins:=st.ins++[K]} (eL 0 K (st.ins.length:Int) 0 0) ab)):=by
  show _=_;rw[aJ.o];unfold inR;simp only;rw[aW.o]
 clear aJ aW;have aw:V _:=λb3 aN=>jK ai.o.c5 ai.o.c6 ai.o.fr b3 aN (Mst P am al ar X) (.inl rfl);by_cases B:K<1
 ·have aP:V (r=.error (4,y)):=by show _=_;rw[p.o,hK (.inl B)]
  have z:V _:=aw.o 4 y;clear p aw ai;go_wp2_with (go_at_call 92;refine yai z.o ?_;rintro e bm ⟨rfl,F⟩);refine yay (v:=.tuple #[]) (by simp[results,results56,go_sem]) rfl ?_;rw[aP.o];exact⟨rfl,F.c5,F.c6,(Mv.of aV.o).bad F.chg⟩
 by_cases R:1000<K
 ·have aP:V (r=.error (4,y)):=by show _=_;rw[p.o,hK (.inr R)]
  have z:V _:=aw.o 4 y;clear p aw ai;go_wp2_with (go_at_call 92;refine yai z.o ?_;rintro e bm ⟨rfl,F⟩);refine yay (v:=.tuple #[]) (by simp[results,results56,go_sem]) rfl ?_;rw[aP.o];exact⟨rfl,F.c5,F.c6,(Mv.of aV.o).bad F.chg⟩
 obtain⟨a1,bI,ae⟩:=ju ai.o.r1;have bk:=ai.o.c0;by_cases h3:20<=st.ins.length
 ·have aP:V (r=.error (5,ab)):=by show _=_;rw[p.o,hJ xaa,hK h3]
  have z:V _:=aw.o 5 ab;have b9:(20:Int)<=st.ins.length:=xaa;rw[ae]at bk;clear p aw ai bP;generalize st.ins.length=ni at*;go_wp2_with (go_at_call 92;refine yai z.o ?_;rintro e bm ⟨rfl,F⟩);refine yay (v:=.tuple #[]) (by simp[results,results56,go_sem]) rfl ?_;rw[aP.o];exact⟨rfl,F.c5,F.c6,(Mv.of aV.o).bad F.chg⟩
 have ay:V (r=qO Q (fZ {st with ins:=st.ins++[K]} (eL 0 K (st.ins.length:Int) 0 0) ab)):=by show _=_;rw[p.o,hJ xaa,hJ h3]
 have aH:1<=K/\K<=1000:=xaa;have aq:V _:=LY u.o.gd K xaa;have ct:V _:=λcp v (e:fZ _ _ ab=.ok (cp,v))=>oE aq.o (LZ u.o.gd aH) e;have cl:(aX.alloc (.cells #[hI K] 3)).cell? ⟨aX.heap.size,0,none⟩=some (hI K):=by rw[yau];rfl
 have bH:=ez 0 0 aX (.cells #[hI K] 3);have i:V _:=ai.o.keep bH;have G:V _:=aV.o.trans bH;have cF:V _:=cd.o.keep bH;have aB:V (I<=aX.heap.size):=by show _<=_;have:=ai.o.sz;have:=ai.o.lt;omega
 have b9:¬(20:Int)<=st.ins.length:=xaa;have bv:V (st.ins.length<20):=by show _<_;omega
 clear p aw ai bP cd bH N;subst ae;go_upto_region 47 with fail;go_wp2_with (first|(at_builtin;refine gn _ rfl _ _ rfl I _ _ (by rfl) i.o.r1 _ K (by rfl) cl ?c2 ?c3 ?_)|fail)
 case c2=>have:=bv.o;omega
 case c3=>have:=aB.o;simp;omega
 intro g9 cap9 n9 bo bS bZ ag cj;obtain⟨a7,aa⟩:=i.o.ins_ (n9:=n9) (zs:=st.ins++[K]) ag (by rw[bS];simp) (by rw[List.map_append];exact bZ) (cj.imp id (λe=>by rw[e];simp));have aF:=i.o.lt;have bh:=(ag.cell aF i.o.np.1).trans i.o.c0;have a0:=(ag.frozen aF i.o.np.1).trans (i.o.fr 0);have a9:n9=st.ins.length+1:=by rw[bS]
 subst a9;have o:V _:=a7;have av:V _:=(Mv.of G.o).trans aa;have w:V _:=cF.o.keepC aa.chg aR.o;have cP:V (¬Mst P _ _ _ _ _):=λc=>(aa.new _ c).elim aR.o (λc=>hR cF.o.lt);clear a7 aa ag bZ cj bS cl i G;go_upto_region 48 with fail;clear bh a0 aF;generalize bo.setCell ⟨P,0,_⟩ _=bA at o av w⊢;clear cF ad aC u aI bk
 have bM:V (∀W' (bT:Int),bT=(st.ins.length:Int)->Kept 0 0 bA W'->Calls prog 96 #[hG P,(eL 0 K bT 0 0).agg,hI ab] W' λe aG=>V (TrO bA P I (hH g9 (st.ins.length+1) cap9) al ar X bs (fZ {st with ins:=st.ins++[K]} (eL 0 K (st.ins.length:Int) 0 0) ab) e aG)/\(∃x:Int,e=.returned (hI x))/\aG.cell? ⟨bL,1,none⟩=some (hI ab)/\aG.cell? ⟨P,0,none⟩=some (hH g9 (st.ins.length+1) cap9)):=λW' bT bx ap=>by
  subst bx
  exact yai (NV (o.o.keep ap) aq.o (eL 0 K (st.ins.length:Int) 0 0) aH yag ab) (λe aG t=>⟨TrO.back ap t.1,t.1.ret,(t.1.chg.cell (p:=⟨bL,1,none⟩) (w.o.keep ap).lt cP.o).trans (w.o.keep ap).c1,t.2⟩)
 have au:V (∀W',Kept 0 0 _ W'->W'.cell? _=some _/\W'.cell? _=some _):=λW' ap=>⟨(w.o.keep ap).c1,(o.o.keep ap).c0⟩
 generalize fZ _ _ _=ep at bM ct ay;obtain⟨aQ,bj⟩:=au.o _ hQ;have bW:V _:=o.o.nl;clear o aq;generalize st.ins.length=ni at*;rcases ep with⟨b3,aN⟩|⟨s,v⟩
 ·have aP:V (r=.error _):=ay.o
  go_region_held3 (λJ=>J.cell? ⟨bL,1,none⟩=some (hI ab)/\J.cell? ⟨P,0,none⟩=some (hH g9 (ni+1) cap9)) (go_keep)
   (first
    |(go_at_call 34;refine yai (gQ _ _ _ _ _ _) ?_;rintro e ck ⟨rfl,b6⟩;obtain⟨aO,ba⟩:=au.o _ ((eF _).trans b6))
    |(go_at_call 96;refine yai (bM.o _ _ (by rw[IntKind.wrap_i64];omega) ((eF _).trans b6)) ?_;rintro e cc ⟨bi,⟨_,_⟩,br,bY⟩;obtain rfl:=bi.o.1))
  all_goals (
   go_wp2_with fail
   refine yay (v:=.tuple #[]) (by simp[results,results56,go_sem]) rfl ?_
   rw[aP.o]
   exact⟨rfl,bi.o.2.1,bi.o.2.2.1,av.o.bad bi.o.2.2.2⟩)
 obtain⟨bm,aL,_⟩:=ct.o s v rfl;have cR:(0:Int)<=v:=xaa;have ch:=bm.g;have cy:V (r=.ok _):=ay.o;clear ct ay bm
 go_region_held3 (λJ=>J.cell? ⟨bL,1,none⟩=some (hI ab)/\J.cell? ⟨P,0,none⟩=some (hH g9 (ni+1) cap9)) (go_keep)
  (first
   |(go_at_call 34;refine yai (gQ _ _ _ _ _ _) ?_;rintro e ck ⟨rfl,b6⟩;obtain⟨aO,ba⟩:=au.o _ ((eF _).trans b6))
   |(go_at_call 96;refine yai (bM.o _ _ (by rw[IntKind.wrap_i64];omega) ((eF _).trans b6)) ?_;rintro e aj ⟨bi,⟨_,_⟩,br,bY⟩;obtain rfl:=bi.o.1))
 all_goals (
  obtain⟨_,bc,bd,bg,Z,C,bp⟩:=bi.o
  have cn:V _:=av.o.trans bp
  have ci:V _:=w.o.keepC bp.chg cP.o
  have cw:¬Mst P _ _ _ _ _:=λc=>(bp.new _ c).elim cP.o (λc=>hR w.o.lt)
  clear bi bp bM au av w cP bj aQ ba aO b6 br bY
  go_upto_region 50 with fail
  obtain⟨bK,be,bU,bO,bR⟩:=nG
  have b2:=C.c3
  have co:=C.fr 3
  have a5:=C.lt
  have cC:I<=aj.heap.size:=hR C.sz
  obtain⟨a4,cb,e4⟩:=jM C.r4
  have an:V (Z.ownBlock≠some P/\Z.ownBlock≠some _):=⟨C.np.2.2.2,λc=>cw (.inr (.inr (.inr (.inr c))))⟩
  have cf:=ci.o.lt
  have a6:=ci.o.c2
  have aT:V _:=C.r4
  have bE:V _:=C
  have cU:bs.length<=5000:=hU C.nl ch.m
  clear C
  subst e4
  generalize bF:bs.length=bQ at*
  have bD:V _:=bF
  clear bF
  go_region_law
   ((refine step_append_lies _ rfl _ _ _ rfl I 123 _ _ 5 _ underlying88 be bU bO bR rfl xab _ _ _ (by simp[Act.eval]) (mO aT.o 1 _) _ 1 1 (Bc.cells ⟨_,_,_,_,0,0,_,0,0⟩) (by simp[Act.eval]) rfl (It _ _ _) (Oh _) xab (by unfold maxLen;omega) xaa yaf _ rfl ?_;intro g9 cap9 bo bB bw b7 cA;have s0:=lI bw a5 an.o.1 b2;have bG:=far2 bw a5 an.o.1 co;have ax:=lI bw cf an.o.2 a6))
  all_goals
   have bu:=b7.imp id (λe=>Nat.le_of_eq e.symm)
   have aZ:=(ez 0 0 aj (.cells #[eN Q,.bool false,hI v,.slice none 0 0,.slice none 0 0] 123)).trans (eM 0 0 _ 1)
   obtain⟨(o:V _),aa⟩:=(bE.o.keep aZ).nms_ (d:=.val Q v) (n9:=bQ+1) (i7 bw) (by rw[yak,bD.o];rfl) (by rw[xV,xW];exact bB) bu (λ_=>⟨rfl,rfl,rfl⟩)
   have a8:V _:=(cn.o.keep aZ).trans aa
   clear aa bu aZ bB bw b7 cA s0 bG ax
   go_wp2_with fail
   refine yay (v:=.tuple #[]) (by simp[results,results56,go_sem]) rfl ?_
   rw[cy.o]
   exact⟨rfl,_,_,_,_,_,o.o,a8.o⟩)):Zp:=h
theorem dB.qhj(h:Zp:=by
 have bN:=H.tk.c0 3 xaa;have bP:=H.tk.c1 3 xaa;have b8:=H.tk.c2 3 xaa;rw[show([k,⟨_,_,_⟩,c,l]:List _).getD 3 _=l from rfl]at bN bP b8;have bX:V _:=λW'=>zN l bf W';have aC:=H.tk.lt;have bl:=pQ bf yad;rw[yao yad]at bl;obtain⟨bz,y,bV⟩:=l;unfold jb at bX;simp only at*;have dp:4<=m:=xaa;clear h H O ah bf az;generalize aY:iH _=K at*;have aW:V _:=aY;clear aY;have ad:V (∀W',Kept 0 0 W W'->W'.cell? _=some _/\W'.cell? _=some _/\W'.cell? _=some _):=λW' ap=>⟨(ap.cell aC xaa).trans bN,(ap.cell aC xaa).trans bP,(ap.cell aC xaa).trans b8⟩
 clear bN bP b8;exact qic):Zp:=h
open dB in
theorem Lb{W c l}(H:TrIn W P I am al ar X bs st none 0 [] g off m cap [k,n,c,l])(O:k.sym=kIn)(ah:l.sym=iK)(h:iU f st (.inS n l)=some r):
  Calls prog 56 #[hG P,.slice (some ⟨g,off,none⟩) m cap] W (StO W P I am al ar X r):=by
 have bf:=H.ti l xac ah;have az:=H.tk.len;simp only[yap,List.length_nil]at az;exact qgf
def PPz (ps us:List Tok):Prop:=(ps=[]/\us=[])\/PPm ps us
def noC (us:List Tok):List Tok:=us.filter λt=>!(t.sym==[44])
theorem yk(a b):noC (a++b)=noC a++noC b:=by unfold noC;grind
theorem Lc(h:PPm aS us):noC us=aS:=by
 induction h with
 |one h=>
  unfold noC;rw[List.filter_cons_of_pos (by rw[h];decide)];rfl
 |more _ ai ht ag=>
  rename_i aS ts c t _;rw[yk,ag];unfold noC;rw[List.filter_cons_of_neg (by grind),List.filter_cons_of_pos (by rw[ht];decide)];rfl
theorem Ld(h:PPz aS us):noC us=aS:=by
 rcases h with⟨rfl,rfl⟩|h
 ·rfl
 exact Lc h
theorem Le(h:PPz aS us):∀t∈us,(t.sym==[41])=false:=by
 rcases h with⟨rfl,rfl⟩|h
 ·grind
 intro t ht;rcases GM h t ht with c|c<;>(rw[c];decide)
theorem Iv(R p r):Hb R (p::r)=if R.any (λq=>q.text==p.text)=true then some p.pos else Hb (R++[p]) r:=rfl
def oI (us:List Tok)(j:Nat):Option Nat:=Hb (noC (us.take j)) (noC (us.drop j))
theorem Iw(h:j<us.length):us.take (j+1)=us.take j++[us.getD j hN]/\us.drop j=us.getD j hN::us.drop (j+1):=by
 simp_all
theorem vS{t}(h:(t.sym==[44])=true):noC [t]=[]:=by grind [noC]
theorem Bx(h:j<us.length)(c:((us.getD j hN).sym==[44])=true):noC (us.take (j+1))=noC (us.take j)/\oI us (j+1)=oI us j:=by
 obtain⟨ae,a9⟩:=Iw h
 have ak:noC (us.drop j)=noC (us.drop (j+1)):=by
  rw[a9,<-List.singleton_append,yk,vS c,List.nil_append]
 have e4:noC (us.take (j+1))=noC (us.take j):=by rw[ae,yk,vS c,List.append_nil]
 refine⟨e4,?_⟩;unfold oI;rw[e4,ak]
theorem Ix(h:j<us.length)(c:((us.getD j hN).sym==[44])=false):noC (us.take (j+1))=noC (us.take j)++[us.getD j hN]/\((noC (us.take j)).any (λq=>q.text==(us.getD j hN).text)=true->oI us j=some (us.getD j hN).pos)/\((noC (us.take j)).any (λq=>q.text==(us.getD j hN).text)=false->oI us (j+1)=oI us j):=by
 grind [Iw,noC,oI,Iv]
