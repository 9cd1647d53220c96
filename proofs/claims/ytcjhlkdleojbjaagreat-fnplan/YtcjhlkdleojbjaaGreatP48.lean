import Derived.Test.YtcjhlkdleojbjaaGreatP47
namespace Go.Proofs.Z
variable{Zp:Prop}
open Tryz
set_option maxRecDepth 1000000
set_option maxHeartbeats 0
open Go.RowKit Flt
attribute[local go_sem] eF eE eD
variable{P J:Nat}{r:Option (Rs LSt)}{u1 u2 u3 u4:Value}{st:LSt}{n:Tok}{bs:List Bc}{s:List UInt8}
theorem OZ:(prog.info? 157).map (λi=>(i.zero,i.size,i.bytes))=some (some (.agg #[.string ⟨#[]⟩,.bool false,hA 0,.slice none 0 0,.slice none 0 0]),5,80):=by kernel_rfl
theorem ng:∃bW,prog.info? 157=some bW/\bW.zero=some (.agg #[.string ⟨#[]⟩,.bool false,hA 0,.slice none 0 0,.slice none 0 0])/\bW.size=5/\bW.bytes=80:=by
 have h:=OZ;simp_all
theorem Je(w:World)(b:Bc)(m):∀j u,b.cells[j]? =some u->((w.alloc (.cells #[eN b.nm,.bool b.fn,hA b.val,.slice b.pa b.pn b.pc,.slice b.ba b.bn b.bc] 157)).drewN m).cell? ((⟨w.heap.size,0,none⟩:Addr).add j)=some u:=λj u aB=>
 World.news_of_block (w:=w.alloc (.cells #[eN b.nm,.bool b.fn,hA b.val,.slice b.pa b.pn b.pc,.slice b.ba b.bn b.bc] 157)) (t:=157) (fr:=(0,0)) (cs:=#[eN b.nm,.bool b.fn,hA b.val,.slice b.pa b.pn b.pc,.slice b.ba b.bn b.bc]) (qd _ _) j u aB
theorem O0(b:Bc):∀u∈b.cells,u.oneCell'=true:=λu aB=>by
 simp only[Bc.cells,List.mem_cons,List.not_mem_nil,or_false]at aB
 rcases aB with rfl|rfl|rfl|rfl|rfl<;>rfl
theorem pQ{W}(h:WS W P J u1 u2 u3 u4 bs st)(af:bs.length<=100000)(a5:iQ st.names s=none):Calls prog 102 #[hy P,eN s] W λe I=>e=.returned (hA (-1))/\I=W:=
 yaj (rx h.c3 h.r4 af s) (λe I ⟨r,ae,aX,X⟩=>by
  rcases aX with⟨ak,bP,rfl,l,be⟩|⟨rfl,ad⟩
  ·rw[oD h bP l be]at a5;cases a5
  grind)
theorem pR{W}(h:WS W P J u1 u2 u3 u4 bs st)(af:bs.length<=100000){d}(a5:iQ st.names s=some d):Calls prog 102 #[hy P,eN s] W λe I=>∃k:Nat,e=.returned (hA k)/\I=W:=
 yaj (rx h.c3 h.r4 af s) (λe I ⟨r,ae,aX,X⟩=>by
  rcases aX with⟨ak,bP,rfl,l,be⟩|⟨rfl,ad⟩<;>grind[oX])
theorem uD{d}(h:iQ st.names n.text=some d):pi st n r=some (.error (3,n.pos)):=by unfold pi;rw[h]
theorem uE(h:iQ st.names n.text=none):pi st n r=r:=by unfold pi;rw[h]
theorem cH.qdt(h:Zp:=by
 clear cf Z n2;cases ai:iQ st.names u with
 |some d=>
  exact qag
 |none=>
  exact qfk):Zp:=h
theorem cH.qfj(h:Zp:=by
 rw[show(k::n::q::ts).getD 0 _=k from rfl]at c0;rw[show(k::n::q::ts).getD 1 _=n from rfl]at cf Z n2;rw[O,show KC=[108,101,116] from rfl]at c0;exact qgd):Zp:=h
theorem cH.qfl(h:Zp:=by
 have bI:E ((eM f st [] e).map (qH u)=some r):=by
  have h:=HR.o;rw[uE HFn.o]at h;exact h
 cases x:eM f st [] e with
 |none=>exfalso;have h:=bI.o;grind
 |some ay=>
  have aq:E (r=qH u ay):=by
   have h:=bI.o;rw[x]at h;exact(hE h).symm
  have ah:=gn f _ _ e aU.o.gd aU.o.nm (λb hb=>by cases hb) S.o _ x;have an:E _:=ah;have bZ:E _:=trc f _ P J _ _ _ _ _ _ _ 0 0 _ g _ _ _ _ (aU.o.later bE.o aU.o.gd aU.o.nm (Mv.of HK.o) 3 xaa _ rfl) 2 e bh.o yad _ x;clear ah x bI HR HFn bh S;rcases ay with⟨c,p⟩|⟨s,v⟩
  ·go_wp2_with (go_at_call 101;refine yaj bZ.o ?_;rintro e aF ⟨rfl,bd⟩);refine yaz (v:=.tuple #[]) (by simp[results,results76,go_sem]) rfl ?_;rw[aq.o];exact⟨rfl,bd.1,bd.2.1,(Mv.of HK.o).bad bd.2.2⟩
  obtain⟨w,aO⟩:=an.o s v rfl;have cK:(0:Int)<=v:=xaa;have b2:=w.g;have cu:E (r=.ok _):=aq.o;go_upto_region 49 with (go_at_call 101;refine yaj bZ.o ?_;rintro e bD ⟨rfl,a5,a7,z,G,a2,bv⟩);have ct:E _:=(Mv.of HK.o).trans bv;have bz:E _:=av.o.keepC bv.chg aP.o;have cq:¬Mst P _ _ _ _ _:=λc=>(bv.new _ c).elim aP.o (λc=>hJ av.o.lt);clear bZ an aq bv aU bE R aS av w;obtain⟨bW,a8,b4,b3,b0⟩:=ng;have b1:=a2.c3;have ca:=a2.fr 3;have be:=a2.lt;have cS:J<=bD.heap.size:=hJ a2.sz
  obtain⟨a4,cI,e4⟩:=jr a2.r4;have ad:E (G.ownBlock≠some P/\G.ownBlock≠some _):=⟨a2.np.2.2.2,λc=>cq (.inr (.inr (.inr (.inr c))))⟩
  exact qgj):Zp:=h
theorem cH.qge(h:Zp:=by
 have bh:E _:=ar;have S:E _:=b5;clear h Y ar b5 O;exact qgr):Zp:=h
theorem cH.qgk(h:Zp:=by
 go_upto_region 50 with fail
 go_region_law
  ((refine step_append_lies _ rfl _ _ _ rfl J 157 _ _ 5 _ underlying123 a8 b4 b3 b0 rfl xab _ _ _ (by simp[Act.eval]) (kE a6.o 1 _) _ 1 1 (Bc.cells ⟨_,_,_,_,0,0,_,0,0⟩) (by simp[Act.eval]) rfl (Je _ _ _) (O0 _) xab (by unfold maxLen;omega) xaa yag _ rfl ?_;intro g9 cap9 bj bF aW bT cz;have aZ:=kG aW be ad.o.1 b1;have bG:=far2 aW be ad.o.1 ca;have ax:=kG aW bq ad.o.2 bb))
 all_goals
  have bQ:=bT.imp id (λe=>Nat.le_of_eq e.symm)
  have aQ:=(ez 0 0 bD (.cells #[eN u,.bool false,hA v,.slice none 0 0,.slice none 0 0] 157)).trans (eJ 0 0 _ 1)
  obtain⟨(o:E _),H⟩:=(bJ.o.keep aQ).nms_ (d:=.val u v) (n9:=aV+1) (gh aW) (by rw[yal,bm.o];rfl) (by rw[xR,xS];exact bF) bQ (λ_=>⟨rfl,rfl,rfl⟩)
  have bf:E _:=(ct.o.keep aQ).trans H
  clear H bQ aQ bF aW bT cz aZ bG ax
  go_wp2_with fail
  refine yaz (v:=.tuple #[]) (by simp[results,results76,go_sem]) rfl ?_
  rw[cu.o]
  exact⟨rfl,_,_,_,_,_,o.o,bf.o⟩):Zp:=h
open cH in
theorem Jf{f W g off m cap k q e ts}(Y:TrIn W P J u1 u2 u3 u4 bs st none 0 [] g off m cap (k::n::q::ts))(O:k.sym=KC)(ar:Pr 2 [e] ts){r}(h:iI f st (.letS n e)=some r):
  Calls prog 76 #[hy P,.slice (some ⟨g,off,none⟩) m cap] W (StO W P J u1 u2 u3 u4 r):=by
 have af:=iS ar;have b5:=je ar (λt ht=>Y.ti t (by simp[ht])) e xac;have am:=Y.tk.len;simp only[yaq]at am;exact qfi
