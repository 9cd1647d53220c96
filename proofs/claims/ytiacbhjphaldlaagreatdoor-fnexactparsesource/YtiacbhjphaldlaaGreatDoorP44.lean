import Derived.Test.YtiacbhjphaldlaaGreatDoorP43
namespace Go.Proofs.Z
variable{Zp:Prop}
open Tryz
set_option maxRecDepth 1000000
set_option maxHeartbeats 0
open Go.RowKit Flt
attribute[local go_sem] dI dG dF
variable{f j P B g aO m cap:Nat}{ps us ts:List Tok}{u1 ap u3 u4:Value}{st:LSt}{s:List UInt8}{am:List Bc}{n k q:Tok}{e:Ex}{r:Rs LSt}
theorem m9(w){bE rest o a i1}(an:o.guard=none)(s x)
  (av:o.op=.call {callee:=.builtin .append,args:=#[s,x],argTypes:=#[23,23]})
  (B) (v) (js) (ai:a.eval s=v) (aW:w.ownsRow B 3 1 v js.length (js.map (Value.int .i64)))
  (I) (y) (ar:a.eval x=.slice (some I) 1 1) (C:w.cell? I=some (h0 y))
  (F:js.length+1<=1000000) (l:B<=w.heap.size)
  (h:∀g cap n D,n=(js++[y]).length->D.ownsRow B 3 1 (hZ g n cap) n ((js++[y]).map (Value.int .i64))->Chg (λb=>v.ownBlock=some b) w D->(v.ownBlock=some g\/g=w.heap.size)->wpList prog bE i1 rest (a.put o.dst (hZ g n cap)) D):wpList prog bE i1 (o::rest) a w:=by
 obtain⟨bS,hi,ch,b6,ci⟩:=info_parts qy;refine wpList_append_lies w an s x _ av B 3 _ _ 1 8 underlying23 hi ch b6 ci rfl xab v _ _ ai aW _ 1 1 [h0 y] ar rfl ?_ ?_ xab (by unfold maxLen;omega) xaa l _ rfl ?_
 ·grind[Addr.add]
 ·intro u bd;simp at bd;subst bd;rfl
 intro g cap D z J al _;have e:js.length+1=(js++[y]).length:=by grind
 rw[e]at z⊢;refine h g _ _ _ rfl ?_ (eD J) al;grind
theorem FG{W}(Y:TrIn W P B u1 ap u3 u4 am st none 0 [] g aO m cap (k::ts))(H:k.sym=tP)(F:Pr 2 [e] ts)(h:fF f st (.outS k e)=some r):
  Calls prog 15 #[ge P,.slice (some ⟨g,aO,none⟩) m cap] W (StO W P B u1 ap u3 u4 r):=by
 have aR:=Y.tk.len;rw[yap]at aR;have ab:=i7 F;have bK:=Y.mc;have bQ:=Y.m5;have av:=Y.gd.o;have c0:=Y.tk.c0 0 xaa;have c1:=Y.tk.c1 0 xaa;rw[show(k::ts).getD 0 h8=k from rfl]at c0 c1;rw[H]at c0;rw[show tP=[111,117,116] from rfl]at c0;have p2:=Y.ws.c2;obtain⟨a3,X,ag⟩:=jo Y.ws.r3;have bC:=Q Y.ws;have cd:=Q Y.gd;simp only[Nat.zero_mul,Nat.add_zero]at c0 c1;simp only[fF]at h;by_cases aj:50<=st.outs.length
 ·rw[h3 aj]at h;have aF:M _:=(h4 h).symm;have bX:M _:=jC Y.ws.c5 Y.ws.c6 Y.ws.fr 5 k.pos (Mst P u1 ap u3 u4) (.inl rfl);have bB:(50:Int)<=(st.outs.length:Int):=xaa;clear Y h;subst ag;generalize st.outs.length=i at*;generalize k.pos=a0 at*;go_enter func15,ntmps15;go_wp2_with (go_at_call 32;refine yai bX.o ?_;rintro e ao ⟨rfl,u⟩);refine yax (v:=.tuple #[]) (by simp[results,results15,go_sem]) rfl ?_;rw[aF.o];exact⟨rfl,u.c5,u.c6,u.chg⟩
 rw[h2 aj]at h;cases bl:dQ f st [] e with
 |none=>rw[bl]at h;cases h
 |some r1=>
  rw[bl]at h;have aF:M _:=(h4 h).symm;have bD:=ji F (λt az=>Y.ti t (by simp[az])) e xac;have bL:=fE f st [] e Y.gd Y.nm Y.lo bD r1 bl
  have ai:=Y.sub Y.ws (Gw.refl Y.gd) (Mv.refl _ _) 1 m yac ts (by
   rw[List.drop_succ_cons,List.drop_zero,yao xaa]) (cap':=cap-1) xaa
  have aE:M _:=trc f W P B u1 ap u3 u4 am st none 0 0 [] g _ _ _ ts ai 2 e F yac r1 bl;have bB:¬(50:Int)<=(st.outs.length:Int):=xaa;have br:=Q bL;clear ai bL Y h bl;subst ag;generalize aA:st.outs.length=i at*;have D:=Q aA;clear aA;generalize k.pos=a0 at*;obtain⟨c,p⟩|⟨s,v⟩:=r1
  ·go_enter func15,ntmps15;go_wp2_with (go_at_call 33;refine yai aE.o ?_;rintro e ao ⟨rfl,C⟩);refine yax (v:=.tuple #[]) (by simp[results,results15,go_sem]) rfl ?_;rw[aF.o];exact⟨rfl,C⟩
  obtain⟨w,aD⟩:=br.o s v rfl;have d1:0<=(v:Int):=xaa;have cX:=Q w.o;go_enter func15,ntmps15;go_upto_region 6 with (go_at_call 33;refine yai aE.o ?_;rintro e ao ⟨rfl,aH,aN,aM,aS,aX,aT⟩);have a8:=aX.c2;have aL:=dE 0 0 ao (.cells #[h0 v] 3);have b:M _:=aX.keep aL;have O:(ao.alloc (.cells #[h0 v] 3)).cell? ⟨ao.heap.size,0,none⟩=some (h0 v):=by rw[yat];rfl
  have bk:M _:=aT.keep aL;have V:M (B<=ao.heap.size):=by show _<=_;have:=aX.sz;have:=aX.lt;omega
  have bw:=Q w.g.o;clear aX aT c0 c1 p2 aE br w;go_wp2_with (first|(at_builtin;refine m9 _ rfl _ _ rfl B _ s.outs (by rfl) b.o.r3 ⟨ao.heap.size,0,none⟩ (v:Int) (by rfl) O ?c2 ?c3 ?_)|fail)
  case c2=>have:=bw.o;omega
  case c3=>have:=V.o;simp;omega
  intro g9 cap9 n9 bn b4 ca bO cn;obtain⟨(a:M _),U⟩:=b.o.outs_ (n9:=n9) (cap9:=cap9) (g9:=g9) (zs:=s.outs++[(v:Int)]) bO (by rw[b4];simp) (by rw[List.map_append];exact ca) (cn.imp id (λe=>by rw[e];simp));have aV:=b.o.lt;have aU:=(bO.cell (p:=⟨P,2,none⟩) aV b.o.np.2.2.1).trans b.o.c2;have aY:=(bO.frozen (p:=⟨P,2,none⟩) aV b.o.np.2.2.1).trans (b.o.fr 2);have bv:M _:=bk.o.trans U;clear U bO ca cn b4 aL O b bk;go_wp2_with fail;refine yax (v:=.tuple #[]) (by simp[results,results15,go_sem]) rfl ?_;rw[aF.o];exact⟨rfl,_,_,_,_,_,a.o,bv.o⟩
theorem Nc{ab k}(H:k<ab.length)(z:(ab.getD k (.val [] 0)).nm=s)(J:∀j,j<k->(ab.getD j (.val [] 0)).nm≠s):kP ab s=k:=by
 unfold kP;rw[List.findIdx_eq H];have e:∀j (aK:j<ab.length),ab.getD j (.val [] 0)=ab[j]:=λj aK=>by simp_all
 grind
theorem JI(g:Gd st)(i s v):Gd (st.setV i s v):=⟨g.n,g.c,g.ok,g.k,g.i,g.o,by show(st.names.set i _).length<=5000;rw[List.length_set];exact g.m⟩
theorem JJ(h:NmOK st)(i s){v}(aD:v<st.vs.length):NmOK (st.setV i s v):=λb I=>by
 have i1:b∈st.names.set i _:=I
 obtain c|c:=List.mem_or_eq_of_mem_set i1
 ·exact h b c
 ·subst c;exact aD
theorem FH{Maa W}:LcR Maa W none 0 []:=⟨rfl,λh=>by omega⟩
theorem TrIn.later{W bG aP loc}(h:TrIn W P B u1 ap u3 u4 am st bG aP loc g aO m cap ts){A aH aN aM aS L aG}(X:WS A P B aH aN aM aS L aG)(U:Gd aG)(bb:NmOK aG)(k:Mv (Mst P u1 ap u3 u4) W (Mst P aH aN aM aS) A)(i)(hi:i<m)(us)(bd:us=ts.drop i):TrIn A P B aH aN aM aS L aG none 0 [] g (aO+i*3) (m-i) (cap-i) us where
 ws:=X
 gd:=U
 nm:=bb
 lc:=FH
 ln:=yad
 lo:=λb I=>by cases I
 tk:=(h.tk.keepC k.chg h.tg).in_ i m us (by rw[bd,yao (by rw[List.length_drop,h.tk.len];exact yac)]) yac
 tg:=λc=>(k.new g c).elim h.tg (λc=>ih h.tk.lt)
 m5:=ih h.m5
 mc:=ih h.mc
 ti:=λt az=>h.ti t (by grind)
 tn:=λt az=>h.tn t (by grind)
theorem FI{W i}(Y:TrIn W P B u1 ap u3 u4 am st none 0 [] g aO m cap (k::i::n::q::ts))(H:k.sym=tQ)(hi:i.sym=fx)(F:Pr 2 [e] ts)(h:fF f st (.rep i n e)=some r):
  Calls prog 15 #[ge P,.slice (some ⟨g,aO,none⟩) m cap] W (StO W P B u1 ap u3 u4 r):=by
 have aR:=Y.tk.len;simp only[yap]at aR;have ab:=i7 F;have bK:=Y.mc;have bQ:=Y.m5;have br:am.length<=100000:=by rw[Y.ws.nl];have:=Y.gd.m;omega
 have c0:=Y.tk.c0 0 xaa;have bS:=Y.tk.c0 1 xaa;have ay:=Y.tk.c1 1 xaa;have i1:=Y.tk.c2 1 xaa;have n1:=Y.tk.c1 2 xaa;have aI:=Y.tk.c2 2 xaa;rw[show(k::i::n::q::ts).getD 0 _=k from rfl]at c0;rw[show(k::i::n::q::ts).getD 1 _=i from rfl]at bS ay i1;rw[show(k::i::n::q::ts).getD 2 _=n from rfl]at n1 aI;rw[H]at c0;rw[show tQ=[114,101,112,101,97,116] from rfl]at c0;have bo:=Y.ti i xac hi;have cb:M _:=λA=>xL i bo A;have bF:=lY bo yac;rw[yao yac]at bF;have G:=Q Y;have bD:=ji F (λt az=>Y.ti t (by simp[az])) e xac;have bx:=Q F;have J:=Q bD;have bl:M _:=pY Y.ws.c3 Y.ws.r4 br n.text;have ah:=Y.ws.c3;have z:M _:=lB Y.ws.r4;have bX:M (∀A,Kept 0 0 W A->∀c p,_):=λA ae c p=>jC (Y.ws.keep ae).c5 (Y.ws.keep ae).c6 (Y.ws.keep ae).fr c p (Mst P u1 ap u3 u4) (.inl rfl);have aw:M (∀A,Kept 0 0 W A->_):=λA ae=>(ae.cell (p:=⟨g,aO+3+1,_⟩) Y.tk.lt xaa).trans ay;obtain⟨a4,bW,al⟩:=jD Y.ws.r4;simp only[Nat.zero_mul,Nat.add_zero,Nat.one_mul]at c0 bS ay i1 n1 aI;simp only[fF]at h;have aF:=Q h;clear h Y F bD bo hi H;obtain⟨bA,x,bB⟩:=i;obtain⟨cc,bm,o⟩:=n;unfold iU at cb;simp only at*;subst al;generalize bz:ek _=ax at*;clear bz;go_enter func15,ntmps15;go_upto_region 9 with (go_at_call 34;refine yai bl.o ?_;rintro e Z ⟨aT,rfl,a0,X⟩;obtain rfl:=X.symm);clear bl;obtain⟨ad,bc,rfl,a6,bw⟩|⟨rfl,V⟩:=a0
 ·have a8:M _:=mZ G.o.ws bc a6 bw;have l:M _:=G.o.ws.nb _ bc;have ba:M (kP _ o=ad):=Nc (iv G.o.ws.nl bc) (by rw[<-uz (G.o.ws.nb _ bc)];exact a6) (λj aK=>by rw[<-uz (G.o.ws.nb j xaa)];exact bw j aK);obtain⟨be,bZ,b2,_,_,_,bf⟩:=z.o xaa;cases b2;obtain⟨_,aW,_,_,_⟩:=bf _ bc;have bT:¬((ad:Int)<0):=xaa;have aJ:M _:=(show st.names.getD _ (.val [] 0)=st.names.getD ad _ from rfl)
  generalize gT:st.names.getD ad _=O at a8 l;have eT:=Q gT;clear gT aJ;generalize K:am.getD ad _=b at aW l;clear K;have bJ:=Q bc;cases O with
  |fn bb ps body=>
   have aC:=l.o.2.1;rw[aC]at aW
   have bM:M (r=.error (3,bm)):=by
    have h:=aF.o;rw[a8.o]at h;exact(h4 h).symm
   have T:M _:=bX.o W (Kept.refl 0 0 W) 3 bm;clear a6 bw bf l z bX;generalize am.length=cG at*;go_wp2_with (go_at_call 32;refine yai T.o ?_;rintro e ao ⟨rfl,u⟩);refine yax (v:=.tuple #[]) (by simp[results,results15,go_sem]) rfl ?_;rw[bM.o];exact⟨rfl,u.c5,u.c6,u.chg⟩
  |val bb bh=>
   have aC:=l.o.2.1
   have cT:M (bb=o):=by
    have:=uz (G.o.ws.nb _ bc);rw[eT.o]at this;exact this.symm.trans a6
   rw[aC]at aW;clear a6 bw bf l z;have aL:=bc;generalize bq:am.length=cG at ah bc br;go_upto_region 12 with (go_at_call 35;refine yai (cb.o _) ?_;rintro e ao ⟨rfl,a5⟩);have ai:=Q a5;clear a5 c0 bS ay i1 n1 aI aW ah cb;by_cases bd:100<ax
   ·have bM:M (r=.error (5,x)):=by
     have h:=aF.o;rw[a8.o]at h;simp only[h3 bd]at h;exact(h4 h).symm
    have aZ:M _:=bX.o _ ai.o 5 x;have ay:=aw.o _ ai.o;clear bX aw;go_wp2_with (go_at_call 32;refine yai aZ.o ?_;rintro e a7 ⟨rfl,u⟩);refine yax (v:=.tuple #[]) (by simp[results,results15,go_sem]) rfl ?_;rw[bM.o];exact⟨rfl,u.c5,u.c6,(Mv.of ai.o).bad u.chg⟩
   obtain⟨N,rfl⟩:∃N:Nat,ax=N:=⟨ax.toNat,by omega⟩
   have bM:M (kr f e ad o N st=some r):=by
    have h:=aF.o;rw[a8.o]at h;simp only[h2 bd]at h;rw[ba.o,Int.toNat_natCast]at h;exact h
   have aP:M (st.names.getD ad (.val [] 0)=.val o bh):=by show _=_;rw[eT.o,cT.o]
   have bk:M (∀A L a9 bj bI bR s,WS _ P B a9 _ _ _ L s->Gd s->NmOK s->Mv _ W _ A->∀r1,dQ f s _ e=some _->RsG s _/\Calls _ _ _ _ _):=λA L a9 bj bI bR s X aG aq bH r1 aH=>⟨fE f s _ e aG aq (λb I=>by cases I) J.o _ aH,trc f _ P B _ bj bI bR _ s _ 0 0 _ g _ _ _ _ (G.o.later X aG aq bH 4 xaa _ rfl) 2 e bx.o yac r1 aH⟩
   have y:M _:=G.o.ws.keep ai.o;have aS:=Q G.o.gd;have bg:=Q G.o.nm;clear aF ba a8 eT bX aw cT bx J G;go_wp2_with fail;go_loopw [8] (λbG A=>∃(j:Nat) (s:LSt) (L:List Bc) (a9 bj bI bR:Value) (aN:Nat),j<=N/\bG=h0 j/\M (WS A P B a9 bj bI bR L s)/\M (Mv (Mst P u1 ap u3 (hZ be am.length bW)) W (Mst P a9 bj bI bR) A)/\M (kr f e ad o (N-j) s=some r)/\M (Gd s)/\M (NmOK s)/\M (L.length=am.length)/\M (s.names.getD ad (.val [] 0)=.val o aN)) (λbG _=>N-(intOf bG).toNat)
   case atStart=>exact⟨0,_,_,_,_,_,_,_,yad,rfl,y,(show M _ from Mv.of ai.o),bM,aS,bg,(show M _ from rfl),aP⟩
   case round=>
    obtain⟨j,s,L,a9,bj,bI,bR,aN,aK,rfl,aB,w,an,bs,aA,au,bn⟩:=hrel;clear bM aP y aS bg;by_cases aV:j<N
    ·cases D:dQ f s [] e with
     |none=>
      exfalso;have h:=an.o;rw[show N-j=(N-j-1)+1 by omega,kr,D]at h;cases h
     |some r1=>
      obtain⟨ag,ar⟩:=bk.o _ _ _ _ _ _ s aB.o bs.o aA.o w.o _ D;have aE:=Q ag;have bP:=Q ar;have R:=Q an.o;rw[show N-j=(N-j-1)+1 by omega,kr,D]at R;clear ag ar D an;obtain⟨c,p⟩|⟨ak,v⟩:=r1
      ·have bM:M _:=(h4 R.o).symm;go_wp2_with (go_at_call 33;refine yai bP.o ?_;rintro e a7 ⟨rfl,C⟩);refine yax (v:=.tuple #[]) (by simp[results,results15,go_sem]) rfl ?_;rw[bM.o];exact⟨rfl,C.1,C.2.1,w.o.bad C.2.2⟩
      obtain⟨aa,aD⟩:=aE.o _ v rfl;have d1:¬((v:Int)<0):=xaa;have af:M (ak.names.getD ad (.val [] 0)=.val o aN):=by show _=_;rw[aa.m];exact bn.o
      have ct:M _:=JI aa.g ad o v;have S:M _:=JJ (NmOK.gw aA.o aa) ad o aD;have aY:M (kr f e ad o (N-(j+1)) (ak.setV ad o v)=some r):=by show _=_;rw[show N-(j+1)=N-j-1 by omega];exact R.o
      go_upto_region 19 with (go_at_call 33;refine yai bP.o ?_;rintro e a7 ⟨rfl,aQ,aU,bN,cp,av,bi⟩);obtain⟨b1,b9,bU,aj,bC,bp,U⟩:=av.setv (v:=v) (it au.o aL) af.o;have bE:=av.c3;rw[bU,au.o,bq]at bE;have cx:=(lB av.r4 (ix au.o))
      obtain⟨cI,bu,cg,_,_,_,bf⟩:=cx;have bL:=(bf _ (it au.o aL)).2.2.1;rw[bU]at cg;cases cg;have a:=Q bp;have bv:M _:=(w.o.trans bi).trans U;have aX:M ((L.set ad {L.getD ad h9 with val:=v}).length=am.length):=by show _=_;rw[List.length_set];exact au.o
      have aM:M ((ak.setV ad o v).names.getD ad (.val [] 0)=.val o v):=by
       show(ak.names.set ad _).getD ad _=_;rw[qn (by rw[<-av.nl,au.o];exact aL)]
      clear bf bp U av bi w aB bP aE R bs aA bn aa aj;go_wp2_with fail;go_roundw
      case rel=>exact⟨j+1,ak.setV ad o v,_,aQ,aU,bN,cp,v,by omega,by go_num,a,bv,aY,ct,S,aX,aM⟩
      case measure=>simp[intOf];omega
    obtain rfl:j=N:=xaa
    have bM:M (r=.ok s):=by
     have h:=an.o;rw[Nat.sub_self,kr]at h;exact(h4 h).symm
    clear an bk;go_wp2_with fail;refine yax (v:=.tuple #[]) (by simp[results,results15,go_sem]) rfl ?_;rw[bM.o];exact⟨rfl,_,_,_,_,_,aB.o,w.o⟩
 have bM:M (r=.error (3,bm)):=by
  have h:=aF.o;rw[nU G.o.ws V]at h;exact(h4 h).symm
 have T:M _:=bX.o W (Kept.refl 0 0 W) 3 bm;clear V z bX ah;go_wp2_with (go_at_call 32;refine yai T.o ?_;rintro e ao ⟨rfl,u⟩);refine yax (v:=.tuple #[]) (by simp[results,results15,go_sem]) rfl ?_;rw[bM.o];exact⟨rfl,u.c5,u.c6,u.chg⟩
theorem Nf:(prog.info? 70).map (λi=>(i.zero,i.size,i.bytes))=some (some (.agg #[.string ⟨#[]⟩,.bool false,h0 0,.slice none 0 0,.slice none 0 0]),5,80):=by kernel_rfl
theorem mF:∃bS,prog.info? 70=some bS/\bS.zero=some (.agg #[.string ⟨#[]⟩,.bool false,h0 0,.slice none 0 0,.slice none 0 0])/\bS.size=5/\bS.bytes=80:=by
 have h:=Nf;simp_all
theorem FJ{w:World}{b:Bc}{m}:∀j u,b.cells[j]? =some u->((w.alloc (.cells #[dJ b.nm,.bool b.fn,h0 b.val,.slice b.pa b.pn b.pc,.slice b.ba b.bn b.bc] 70)).drewN m).cell? ((⟨w.heap.size,0,none⟩:Addr).add j)=some u:=λj u bd=>
 World.news_of_block (w:=w.alloc (.cells #[dJ b.nm,.bool b.fn,h0 b.val,.slice b.pa b.pn b.pc,.slice b.ba b.bn b.bc] 70)) (t:=70) (fr:=(0,0)) (cs:=#[dJ b.nm,.bool b.fn,h0 b.val,.slice b.pa b.pn b.pc,.slice b.ba b.bn b.bc]) wW j u bd
theorem Ng{b:Bc}:∀u∈b.cells,u.oneCell'=true:=λu bd=>by
 simp only[Bc.cells,List.mem_cons,List.not_mem_nil,or_false]at bd
 obtain rfl|rfl|rfl|rfl|rfl:=bd<;>rfl
theorem oL{W}(h:WS W P B u1 ap u3 u4 am st)(ab:am.length<=100000)(bi:d8 st.names s=none):Calls prog 34 #[ge P,dJ s] W λe A=>e=.returned (h0 (-1))/\A=W:=
 yai (pY h.c3 h.r4 ab s) (λe A ⟨r,K,a0,X⟩=>by
  obtain⟨ad,bc,rfl,a6,bw⟩|⟨rfl,V⟩:=a0
  ·rw[mZ h bc a6 bw]at bi;cases bi
  grind)
theorem oO{W}(h:WS W P B u1 ap u3 u4 am st)(ab:am.length<=100000){d}(bi:d8 st.names s=some d):Calls prog 34 #[ge P,dJ s] W λe A=>∃k:Nat,e=.returned (h0 k)/\A=W:=
 yai (pY h.c3 h.r4 ab s) (λe A ⟨r,K,a0,X⟩=>by
  obtain⟨ad,bc,rfl,a6,bw⟩|⟨rfl,V⟩:=a0<;>grind[nU])
theorem sZ{r d}(h:d8 st.names n.text=some d):lJ st n r=some (.error (3,n.pos)):=by unfold lJ;rw[h]
theorem s7{r}(h:d8 st.names n.text=none):lJ st n r=r:=by unfold lJ;rw[h]
theorem cX.qeb(h:Zp:=by
 clear bH n1 aI;cases bA:d8 st.names o with
 |some d=>
  exact qai
 |none=>
  exact qgh):Zp:=h
theorem cX.qge(h:Zp:=by
 rw[show(k::n::q::ts).getD 0 _=k from rfl]at c0;rw[show(k::n::q::ts).getD 1 _=n from rfl]at bH n1 aI;rw[H,show tO=[108,101,116] from rfl]at c0;exact qhf):Zp:=h
theorem cX.qgi(h:Zp:=by
 have bM:M ((dQ f st [] e).map (mI o)=some r):=by
  have h:=aF.o;rw[s7 cA.o]at h;exact h
 cases D:dQ f st [] e with
 |none=>exfalso;have h:=bM.o;grind
 |some r1=>
  have K:M (r=mI o r1):=by
   have h:=bM.o;rw[D]at h;exact(h4 h).symm
  have ag:=fE f _ _ e G.o.gd G.o.nm (λb I=>by cases I) J.o _ D;have aE:=Q ag;have bP:M _:=trc f _ P B _ _ _ _ _ _ _ 0 0 _ g _ _ _ _ (G.o.later S.o G.o.gd G.o.nm (Mv.of ay.o) 3 xaa _ rfl) 2 e bx.o yac _ D;clear ag D bM aF cA bx J;obtain⟨c,p⟩|⟨s,v⟩:=r1
  ·go_wp2_with (go_at_call 33;refine yai bP.o ?_;rintro e ao ⟨rfl,C⟩);refine yax (v:=.tuple #[]) (by simp[results,results15,go_sem]) rfl ?_;rw[K.o];exact⟨rfl,C.1,C.2.1,(Mv.of ay.o).bad C.2.2⟩
  obtain⟨w,aD⟩:=aE.o s v rfl;have d1:(0:Int)<=v:=xaa;have cT:=w.g;have cG:M (r=.ok _):=K.o;go_upto_region 49 with (go_at_call 33;refine yai bP.o ?_;rintro e aa ⟨rfl,aH,aN,aM,aS,au,aT⟩);have co:M _:=(Mv.of ay.o).trans aT;have bf:M _:=aw.o.keepC aT.chg a6.o;have cX:¬Mst P _ _ _ _ _:=λc=>(aT.new _ c).elim a6.o (λc=>ih aw.o.lt);clear bP aE K aT G S L bi aw w;obtain⟨bS,bj,ch,b6,ci⟩:=mF;have bE:=au.c3;have bC:=au.fr 3;have a9:=au.lt;have ct:B<=aa.heap.size:=ih au.sz
  obtain⟨a4,bW,b2⟩:=jD au.r4;have aQ:M (aS.ownBlock≠some P/\aS.ownBlock≠some _):=⟨au.np.2.2.2,λc=>cX (.inr (.inr (.inr (.inr c))))⟩
  exact qhl):Zp:=h
theorem cX.qhg(h:Zp:=by
 have bx:=Q F;have J:=Q bD;clear h Y F bD H;exact qhv):Zp:=h
theorem cX.qhm(h:Zp:=by
 go_upto_region 50 with fail
 go_region_law
  ((refine step_append_lies _ rfl _ _ _ rfl B 70 _ _ 5 _ underlying44 bj ch b6 ci rfl xab _ _ _ (by simp[Act.eval]) (kY aW.o 1) _ 1 1 (Bc.cells ⟨_,_,_,_,0,0,_,0,0⟩) (by simp[Act.eval]) rfl FJ Ng xab (by unfold maxLen;omega) xaa yaf _ rfl ?_;intro g9 cap9 bn aB a0 bs cr;have bq:=jk a0 a9 aQ.o.1 bE;have bZ:=far2 a0 a9 aQ.o.1 bC;have ak:=jk a0 av aQ.o.2 bu))
 all_goals
  have be:=bs.imp id (λe=>Nat.le_of_eq e.symm)
  have i1:=(dE 0 0 aa (.cells #[dJ o,.bool false,h0 v,.slice none 0 0,.slice none 0 0] 70)).trans (ed 0 0 1)
  obtain⟨(a:M _),U⟩:=(cd.o.keep i1).nms_ (d:=.val o v) (n9:=N+1) (eD a0) (by rw[yak,bc.o];rfl) (by rw[vH,vI];exact aB) be (λ_=>⟨rfl,rfl,rfl⟩)
  have bv:M _:=(co.o.keep i1).trans U
  clear U be i1 aB a0 bs cr bq bZ ak
  go_wp2_with fail
  refine yax (v:=.tuple #[]) (by simp[results,results15,go_sem]) rfl ?_
  rw[cG.o]
  exact⟨rfl,_,_,_,_,_,a.o,bv.o⟩):Zp:=h
open cX in
theorem FK{W}(Y:TrIn W P B u1 ap u3 u4 am st none 0 [] g aO m cap (k::n::q::ts))(H:k.sym=tO)(F:Pr 2 [e] ts)(h:fF f st (.letS n e)=some r):
  Calls prog 15 #[ge P,.slice (some ⟨g,aO,none⟩) m cap] W (StO W P B u1 ap u3 u4 r):=by
 have ab:=i7 F;have bD:=ji F (λt az=>Y.ti t (by simp[az])) e xac;have aR:=Y.tk.len;simp only[yap]at aR;exact qgd
theorem cY.qeb(h:Zp:=by
 clear bH n1 aI;cases bA:d8 st.names o with
 |some d=>
  exact qai
 |none=>
  exact qgh):Zp:=h
theorem cY.qge(h:Zp:=by
 rw[show([k,n,c,l]).getD 0 _=k from rfl]at c0;rw[show([k,n,c,l]).getD 1 _=n from rfl]at bH n1 aI;rw[H,show kIn=[105,110] from rfl]at c0;exact qhf):Zp:=h
theorem cY.qgi(h:Zp:=by
 obtain⟨ar,b9,cl⟩:=aG.o _ ay.o
 have bM:M (r=inR st ⟨cc,bm,o⟩ ⟨bG,F,bI⟩):=by
  have h:=aF.o;rw[s7 cA.o]at h;exact(h4 h).symm
 clear aF cA;go_upto_region 43 with (go_at_call 35;refine yai (cb.o _) ?_;rintro e ao ⟨rfl,a5⟩);have ai:M _:=ay.o.trans a5;have ce:M _:=aw.o.keep a5;have y:M _:=S.o.keep a5;obtain⟨_,b9,_⟩:=aG.o _ ai.o;have L:=ce.o.c1;have ag:=Q a6.o;clear a5 cb S ay ar cl bi c0
 have R:M (r=if ax<1\/1000<ax then .error (4,F)else if 20<=st.ins.length then .error (5,bm)else mI o (eg {st with ins:=st.ins++[ax]} (dL 0 ax (st.ins.length:Int) 0 0) bm)):=by
  show _=_;rw[bM.o];unfold inR;simp only;rw[ah.o]
 clear bM ah;have bY:M _:=λcv aU=>jC y.o.c5 y.o.c6 y.o.fr cv aU (Mst P u1 ap u3 u4) (.inl rfl);by_cases z:ax<1
 ·have bk:M (r=.error (4,F)):=by show _=_;rw[R.o,h3 (.inl z)]
  have az:M _:=bY.o 4 F;clear R bY y;go_wp2_with (go_at_call 32;refine yai az.o ?_;rintro e a7 ⟨rfl,u⟩);refine yax (v:=.tuple #[]) (by simp[results,results15,go_sem]) rfl ?_;rw[bk.o];exact⟨rfl,u.c5,u.c6,(Mv.of ai.o).bad u.chg⟩
 by_cases J:1000<ax
 ·have bk:M (r=.error (4,F)):=by show _=_;rw[R.o,h3 (.inr J)]
  have az:M _:=bY.o 4 F;clear R bY y;go_wp2_with (go_at_call 32;refine yai az.o ?_;rintro e a7 ⟨rfl,u⟩);refine yax (v:=.tuple #[]) (by simp[results,results15,go_sem]) rfl ?_;rw[bk.o];exact⟨rfl,u.c5,u.c6,(Mv.of ai.o).bad u.chg⟩
 obtain⟨a1,bB,K⟩:=jo y.o.r1;have b1:=y.o.c0;by_cases al:20<=st.ins.length
 ·have bk:M (r=.error (5,bm)):=by show _=_;rw[R.o,h2 xaa,h3 al]
  have az:M _:=bY.o 5 bm;have bD:(20:Int)<=st.ins.length:=xaa;rw[K]at b1;clear R bY y b9;generalize st.ins.length=I at*;go_wp2_with (go_at_call 32;refine yai az.o ?_;rintro e a7 ⟨rfl,u⟩);refine yax (v:=.tuple #[]) (by simp[results,results15,go_sem]) rfl ?_;rw[bk.o];exact⟨rfl,u.c5,u.c6,(Mv.of ai.o).bad u.chg⟩
 have w:M (r=mI o (eg {st with ins:=st.ins++[ax]} (dL 0 ax (st.ins.length:Int) 0 0) bm)):=by show _=_;rw[R.o,h2 xaa,h2 al]
 have bd:1<=ax/\ax<=1000:=xaa;have aE:M _:=FB G.o.gd ax xaa;have cM:M _:=λcg v (e:eg _ _ bm=.ok (cg,v))=>lZ aE.o (KX G.o.gd bd) e;have O:(ao.alloc (.cells #[h0 ax] 3)).cell? ⟨ao.heap.size,0,none⟩=some (h0 ax):=by rw[yat];rfl
 have aL:=dE 0 0 ao (.cells #[h0 ax] 3);have b:M _:=y.o.keep aL;have an:M _:=ai.o.trans aL;have cz:M _:=ce.o.keep aL;have V:M (B<=ao.heap.size):=by show _<=_;have:=y.o.sz;have:=y.o.lt;omega
 have bD:¬(20:Int)<=st.ins.length:=xaa;have aX:M (st.ins.length<20):=by show _<_;omega
 clear R bY y b9 ce aL L;subst K;go_upto_region 47 with fail;go_wp2_with (first|(at_builtin;refine m9 _ rfl _ _ rfl B _ _ (by rfl) b.o.r1 _ ax (by rfl) O ?c2 ?c3 ?_)|fail)
 case c2=>have:=aX.o;omega
 case c3=>have:=V.o;simp;omega
 intro g9 cap9 n9 bn b4 ca bO cn;obtain⟨bp,U⟩:=b.o.ins_ (n9:=n9) (zs:=st.ins++[ax]) bO (by rw[b4];simp) (by rw[List.map_append];exact ca) (cn.imp id (λe=>by rw[e];simp));have aV:=b.o.lt;have aP:=(bO.cell aV b.o.np.1).trans b.o.c0;have aY:=(bO.frozen aV b.o.np.1).trans (b.o.fr 0);have bw:n9=st.ins.length+1:=by rw[b4]
 subst bw;have a:=Q bp;have p:M _:=(Mv.of an.o).trans U;have i:M _:=cz.o.keepC U.chg ag.o;have cS:M (¬Mst P _ _ _ _ _):=λc=>(U.new _ c).elim ag.o (λc=>ih cz.o.lt);clear bp U bO ca cn b4 O b an;go_upto_region 48 with fail;clear aP aY aV;generalize bn.setCell ⟨P,0,_⟩ _=aA at a p i⊢;clear cz aG af G aw b1
 have aj:M (∀A (aC:Int),aC=(st.ins.length:Int)->Kept 0 0 aA A->Calls prog 36 #[ge P,(dL 0 ax aC 0 0).agg,h0 bm] A λe bx=>M (TrO aA P B (hZ g9 (st.ins.length+1) cap9) ap u3 u4 am (eg {st with ins:=st.ins++[ax]} (dL 0 ax (st.ins.length:Int) 0 0) bm) e bx)/\(∃x:Int,e=.returned (h0 x))/\bx.cell? ⟨bh,1,none⟩=some (h0 bm)/\bx.cell? ⟨P,0,none⟩=some (hZ g9 (st.ins.length+1) cap9)):=λA aC a8 ae=>by
  subst a8
  exact yai (M9 (a.o.keep ae) aE.o (dL 0 ax (st.ins.length:Int) 0 0) bd yag bm) (λe bx t=>⟨TrO.back ae t.1,t.1.ret,(t.1.chg.cell (p:=⟨bh,1,none⟩) (i.o.keep ae).lt cS.o).trans (i.o.keep ae).c1,t.2⟩)
 have aK:M (∀A,Kept 0 0 _ A->A.cell? _=some _/\A.cell? _=some _):=λA ae=>⟨(i.o.keep ae).c1,(a.o.keep ae).c0⟩
 generalize eg _ _ _=fl at aj cM w;obtain⟨ba,bJ⟩:=aK.o _ ib;have bL:=Q a.o.nl;clear a aE;generalize st.ins.length=I at*;obtain⟨cv,aU⟩|⟨s,v⟩:=fl
 ·have bk:M (r=.error _):=w.o
  go_region_held3 (λD=>D.cell? ⟨bh,1,none⟩=some (h0 bm)/\D.cell? ⟨P,0,none⟩=some (hZ g9 (I+1) cap9)) (go_keep)
   (first
    |(go_at_call 37;refine yai iy ?_;rintro e b7 ⟨rfl,b3⟩;obtain⟨bg,bT⟩:=aK.o _ ((dH _).trans b3))
    |(go_at_call 36;refine yai (aj.o _ _ (by rw[IntKind.wrap_i64];omega) ((dH _).trans b3)) ?_;rintro e cf ⟨C,⟨_,_⟩,bz,aZ⟩;obtain rfl:=C.o.1))
  all_goals (
   go_wp2_with fail
   refine yax (v:=.tuple #[]) (by simp[results,results15,go_sem]) rfl ?_
   rw[bk.o]
   exact⟨rfl,C.o.2.1,C.o.2.2.1,p.o.bad C.o.2.2.2⟩)
 obtain⟨a7,aD,_⟩:=cM.o s v rfl;have d1:(0:Int)<=v:=xaa;have cT:=a7.g;have cG:M (r=.ok _):=w.o;clear cM w a7
 go_region_held3 (λD=>D.cell? ⟨bh,1,none⟩=some (h0 bm)/\D.cell? ⟨P,0,none⟩=some (hZ g9 (I+1) cap9)) (go_keep)
  (first
   |(go_at_call 37;refine yai iy ?_;rintro e b7 ⟨rfl,b3⟩;obtain⟨bg,bT⟩:=aK.o _ ((dH _).trans b3))
   |(go_at_call 36;refine yai (aj.o _ _ (by rw[IntKind.wrap_i64];omega) ((dH _).trans b3)) ?_;rintro e aa ⟨C,⟨_,_⟩,bz,aZ⟩;obtain rfl:=C.o.1))
 all_goals (
  obtain⟨_,aH,aN,aM,aS,au,aT⟩:=C.o
  have co:M _:=p.o.trans aT
  have bf:M _:=i.o.keepC aT.chg cS.o
  have cX:¬Mst P _ _ _ _ _:=λc=>(aT.new _ c).elim cS.o (λc=>ih i.o.lt)
  clear C aT aj aK p i cS bJ ba bT bg b3 bz aZ
  go_upto_region 50 with fail
  obtain⟨bS,bj,ch,b6,ci⟩:=mF
  have bE:=au.c3
  have bC:=au.fr 3
  have a9:=au.lt
  have ct:B<=aa.heap.size:=ih au.sz
  obtain⟨a4,bW,b2⟩:=jD au.r4
  have aQ:M (aS.ownBlock≠some P/\aS.ownBlock≠some _):=⟨au.np.2.2.2,λc=>cX (.inr (.inr (.inr (.inr c))))⟩
  have av:=bf.o.lt
  have bu:=bf.o.c2
  have aW:=Q au.r4
  have cd:=Q au
  have c7:am.length<=5000:=it au.nl cT.m
  clear au
  subst b2
  generalize bb:am.length=N at*
  have bc:=Q bb
  clear bb
  go_region_law
   ((refine step_append_lies _ rfl _ _ _ rfl B 70 _ _ 5 _ underlying44 bj ch b6 ci rfl xab _ _ _ (by simp[Act.eval]) (kY aW.o 1) _ 1 1 (Bc.cells ⟨_,_,_,_,0,0,_,0,0⟩) (by simp[Act.eval]) rfl FJ Ng xab (by unfold maxLen;omega) xaa yaf _ rfl ?_;intro g9 cap9 bn aB a0 bs cr;have bq:=jk a0 a9 aQ.o.1 bE;have bZ:=far2 a0 a9 aQ.o.1 bC;have ak:=jk a0 av aQ.o.2 bu))
  all_goals
   have be:=bs.imp id (λe=>Nat.le_of_eq e.symm)
   have i1:=(dE 0 0 aa (.cells #[dJ o,.bool false,h0 v,.slice none 0 0,.slice none 0 0] 70)).trans (ed 0 0 1)
   obtain⟨(a:M _),U⟩:=(cd.o.keep i1).nms_ (d:=.val o v) (n9:=N+1) (eD a0) (by rw[yak,bc.o];rfl) (by rw[vH,vI];exact aB) be (λ_=>⟨rfl,rfl,rfl⟩)
   have bv:M _:=(co.o.keep i1).trans U
   clear U be i1 aB a0 bs cr bq bZ ak
   go_wp2_with fail
   refine yax (v:=.tuple #[]) (by simp[results,results15,go_sem]) rfl ?_
   rw[cG.o]
   exact⟨rfl,_,_,_,_,_,a.o,bv.o⟩)):Zp:=h
theorem cY.qhg(h:Zp:=by
 have ar:=Y.tk.c0 3 xaa;have b9:=Y.tk.c1 3 xaa;have cl:=Y.tk.c2 3 xaa;rw[show([k,⟨_,_,_⟩,c,l]:List _).getD 3 _=l from rfl]at ar b9 cl;have cb:M _:=λA=>xL l bo A;have af:=Y.tk.lt;have bF:=lY bo yac;rw[yao yac]at bF;obtain⟨bG,F,bI⟩:=l;unfold iU at cb;simp only at*;have el:4<=m:=xaa;clear h Y H ab bo aR;generalize aJ:ek _=ax at*;have ah:=Q aJ;clear aJ;have aG:M (∀A,Kept 0 0 W A->A.cell? _=some _/\A.cell? _=some _/\A.cell? _=some _):=λA ae=>⟨(ae.cell af xaa).trans ar,(ae.cell af xaa).trans b9,(ae.cell af xaa).trans cl⟩
 clear ar b9 cl;exact qhv):Zp:=h
open cY in
theorem JK{W c l}(Y:TrIn W P B u1 ap u3 u4 am st none 0 [] g aO m cap [k,n,c,l])(H:k.sym=kIn)(ab:l.sym=fx)(h:fF f st (.inS n l)=some r):
  Calls prog 15 #[ge P,.slice (some ⟨g,aO,none⟩) m cap] W (StO W P B u1 ap u3 u4 r):=by
 have bo:=Y.ti l xac ab;have aR:=Y.tk.len;simp only[yap,List.length_nil]at aR;exact qgd
def PPz(ps us:List Tok):Prop:=(ps=[]/\us=[])\/PPm ps us
def noC(us:List Tok):List Tok:=us.filter λt=>!(t.sym==[44])
theorem wn(a b):noC (a++b)=noC a++noC b:=by unfold noC;grind
theorem JL(h:PPm ps us):noC us=ps:=by
 induction h with
 |one h=>
  unfold noC;rw[List.filter_cons_of_pos (by rw[h];decide)];rfl
 |more _ aj az O=>
  rename_i ps ts c t _;rw[wn,O];unfold noC;rw[List.filter_cons_of_neg (by grind),List.filter_cons_of_pos (by rw[az];decide)];rfl
theorem JM(h:PPz ps us):noC us=ps:=by
 obtain⟨rfl,rfl⟩|h:=h
 ·rfl
 exact JL h
theorem JN(h:PPz ps us):∀t∈us,(t.sym==[41])=false:=by
 obtain⟨rfl,rfl⟩|h:=h
 ·grind
 intro t az;obtain c|c:=Em h t az<;>(rw[c];decide)
theorem FL(b p r):oI b (p::r)=if b.any (λq=>q.text==p.text)=true then some p.pos else oI (b++[p]) r:=rfl
def nf(us:List Tok)(j:Nat):Option Nat:=oI (noC (us.take j)) (noC (us.drop j))
theorem FM(h:j<us.length):us.take (j+1)=us.take j++[us.getD j h8]/\us.drop j=us.getD j h8::us.drop (j+1):=by
 simp_all
theorem uJ{t}(h:(t.sym==[44])=true):noC [t]=[]:=by grind[noC]
theorem zO(h:j<us.length)(c:((us.getD j h8).sym==[44])=true):noC (us.take (j+1))=noC (us.take j)/\nf us (j+1)=nf us j:=by
 obtain⟨K,a6⟩:=FM h
 have ag:noC (us.drop j)=noC (us.drop (j+1)):=by
  rw[a6,<-List.singleton_append,wn,uJ c,List.nil_append]
 have b2:noC (us.take (j+1))=noC (us.take j):=by rw[K,wn,uJ c,List.append_nil]
 refine⟨b2,?_⟩;unfold nf;rw[b2,ag]
theorem FN(h:j<us.length)(c:((us.getD j h8).sym==[44])=false):noC (us.take (j+1))=noC (us.take j)++[us.getD j h8]/\((noC (us.take j)).any (λq=>q.text==(us.getD j h8).text)=true->nf us j=some (us.getD j h8).pos)/\((noC (us.take j)).any (λq=>q.text==(us.getD j h8).text)=false->nf us (j+1)=nf us j):=by
 grind[FM,noC,nf,FL]
