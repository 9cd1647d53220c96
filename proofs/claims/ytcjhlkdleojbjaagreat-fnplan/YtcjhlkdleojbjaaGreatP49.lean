import Derived.Test.YtcjhlkdleojbjaaGreatP48
namespace Go.Proofs.Z
variable{Zp:Prop}
open Tryz
set_option maxRecDepth 1000000
set_option maxHeartbeats 0
open Go.RowKit Flt
attribute[local go_sem] eF eE eD
variable{ps us:List Tok}{j:Nat}
theorem cI.qdt(h:Zp:=by
 clear cf Z n2;cases ai:iQ st.names u with
 |some d=>
  exact qag
 |none=>
  exact qfk):Zp:=h
theorem cI.qfj(h:Zp:=by
 rw[show([k,n,c,l]).getD 0 _=k from rfl]at c0;rw[show([k,n,c,l]).getD 1 _=n from rfl]at cf Z n2;rw[O,show kIn=[105,110] from rfl]at c0;exact qgd):Zp:=h
theorem cI.qfl(h:Zp:=by
 obtain⟨bB,b8,cg⟩:=bA.o _ HK.o
 have bI:E (r=inR st ⟨bw,U,u⟩ ⟨bi,w,bk⟩):=by
  have h:=HR.o;rw[uE HFn.o]at h;exact(hE h).symm
 clear HR HFn;go_upto_region 43 with (go_at_call 103;refine yaj (cc.o _) ?_;rintro e aF ⟨rfl,aR⟩);have aK:E _:=HK.o.trans aR;have cj:E _:=av.o.keep aR;have a0:E _:=bE.o.keep aR;obtain⟨_,b8,_⟩:=bA.o _ aK.o;have R:=cj.o.c1;have ap:E _:=aP.o;clear aR cc bE HK bB cg aS c0
 have q:E (r=if K<1\/1000<K then .error (4,w)else if 20<=st.ins.length then .error (5,U)else qH u (fN {st with ins:=st.ins++[K]} (eK 0 K (st.ins.length:Int) 0 0) U)):=by
  show _=_;rw[bI.o];unfold inR;simp only;rw[au.o]
 clear bI au;have ao:E _:=λbV ar=>jq a0.o.c5 a0.o.c6 a0.o.fr bV ar (Mst P u1 u2 u3 u4) (.inl rfl);by_cases F:K<1
 ·have bx:E (r=.error (4,w)):=by simp_all
  have aD:E _:=ao.o 4 w;clear q ao a0;go_wp2_with (go_at_call 100;refine yaj aD.o ?_;rintro e bc ⟨rfl,aB⟩);refine yaz (v:=.tuple #[]) (by simp[results,results76,go_sem]) rfl ?_;rw[bx.o];exact⟨rfl,aB.c5,aB.c6,(Mv.of aK.o).bad aB.chg⟩
 by_cases N:1000<K
 ·have bx:E (r=.error (4,w)):=by simp_all
  have aD:E _:=ao.o 4 w;clear q ao a0;go_wp2_with (go_at_call 100;refine yaj aD.o ?_;rintro e bc ⟨rfl,aB⟩);refine yaz (v:=.tuple #[]) (by simp[results,results76,go_sem]) rfl ?_;rw[bx.o];exact⟨rfl,aB.c5,aB.c6,(Mv.of aK.o).bad aB.chg⟩
 obtain⟨a1,bo,ae⟩:=ja a0.o.r1;have bK:=a0.o.c0;by_cases h3:20<=st.ins.length
 ·have bx:E (r=.error (5,U)):=by show _=_;rw[q.o,hC xaa,hD h3]
  have aD:E _:=ao.o 5 U;have ch:(20:Int)<=st.ins.length:=xaa;rw[ae]at bK;clear q ao a0 b8;generalize st.ins.length=ni at*;go_wp2_with (go_at_call 100;refine yaj aD.o ?_;rintro e bc ⟨rfl,aB⟩);refine yaz (v:=.tuple #[]) (by simp[results,results76,go_sem]) rfl ?_;rw[bx.o];exact⟨rfl,aB.c5,aB.c6,(Mv.of aK.o).bad aB.chg⟩
 have S:E (r=qH u (fN {st with ins:=st.ins++[K]} (eK 0 K (st.ins.length:Int) 0 0) U)):=by show _=_;rw[q.o,hC xaa,hC h3]
 have aI:1<=K/\K<=1000:=xaa;have an:E _:=M6 aU.o.gd K xaa;have b5:E _:=λcD v (e:fN _ _ U=.ok (cD,v))=>oF an.o (M7 aU.o.gd aI) e;have b9:(aF.alloc (.cells #[hA K] 3)).cell? ⟨aF.heap.size,0,none⟩=some (hA K):=by rw[yav];rfl
 have bh:=ez 0 0 aF (.cells #[hA K] 3);have i:E _:=a0.o.keep bh;have y:E _:=aK.o.trans bh;have cy:E _:=cj.o.keep bh;have bO:E (J<=aF.heap.size):=by show _<=_;have:=a0.o.sz;have:=a0.o.lt;omega
 have ch:¬(20:Int)<=st.ins.length:=xaa;have aL:E (st.ins.length<20):=by show _<_;omega
 clear q ao a0 b8 cj bh R;subst ae;go_upto_region 47 with fail;go_wp2_with (first|(at_builtin;refine fZ _ rfl _ _ rfl J _ _ (by rfl) i.o.r1 _ K (by rfl) b9 ?c2 ?c3 ?_)|fail)
 case c2=>have:=aL.o;omega
 case c3=>have:=bO.o;simp;omega
 intro g9 cap9 n9 bj aw bM aN b6;obtain⟨aM,H⟩:=i.o.ins_ (n9:=n9) (zs:=st.ins++[K]) aN (by rw[aw];simp) (by rw[List.map_append];exact bM) (b6.imp id (λe=>by rw[e];simp));have aG:=i.o.lt;have ba:=(aN.cell aG i.o.np.1).trans i.o.c0;have aA:=(aN.frozen aG i.o.np.1).trans (i.o.fr 0);have aH:n9=st.ins.length+1:=by rw[aw]
 subst aH;have o:E _:=aM;have Q:E _:=(Mv.of y.o).trans H;have p:E _:=cy.o.keepC H.chg ap.o;have cQ:E (¬Mst P _ _ _ _ _):=λc=>(H.new _ c).elim ap.o (λc=>hJ cy.o.lt);clear aM H aN bM b6 aw b9 i y;go_upto_region 48 with fail;clear ba aA aG;generalize bj.setCell ⟨P,0,_⟩ _=bp at o Q p⊢;clear cy bA al aU av bK
 have ah:E (∀I (bR:Int),bR=(st.ins.length:Int)->Kept 0 0 bp I->Calls prog 104 #[hy P,(eK 0 K bR 0 0).agg,hA U] I λe ab=>E (TrO bp P J (hz g9 (st.ins.length+1) cap9) u2 u3 u4 bs (fN {st with ins:=st.ins++[K]} (eK 0 K (st.ins.length:Int) 0 0) U) e ab)/\(∃x:Int,e=.returned (hA x))/\ab.cell? ⟨aJ,1,none⟩=some (hA U)/\ab.cell? ⟨P,0,none⟩=some (hz g9 (st.ins.length+1) cap9)):=λI bR bg aj=>by
  subst bg
  exact yaj (Oj (o.o.keep aj) an.o (eK 0 K (st.ins.length:Int) 0 0) aI yah U) (λe ab t=>⟨TrO.back aj t.1,t.1.ret,(t.1.chg.cell (p:=⟨aJ,1,none⟩) (p.o.keep aj).lt cQ.o).trans (p.o.keep aj).c1,t.2⟩)
 have C:E (∀I,Kept 0 0 _ I->I.cell? _=some _/\I.cell? _=some _):=λI aj=>⟨(p.o.keep aj).c1,(o.o.keep aj).c0⟩
 generalize fN _ _ _=dc at ah b5 S;obtain⟨aX,bn⟩:=C.o _ hI;have br:E _:=o.o.nl;clear o an;generalize st.ins.length=ni at*;rcases dc with⟨bV,ar⟩|⟨s,v⟩
 ·have bx:E (r=.error _):=S.o
  go_region_held3 (λB=>B.cell? ⟨aJ,1,none⟩=some (hA U)/\B.cell? ⟨P,0,none⟩=some (hz g9 (ni+1) cap9)) (go_keep)
   (first
    |(go_at_call 46;refine yaj (ij _ _ _ _ _ _) ?_;rintro e cl ⟨rfl,bU⟩;obtain⟨aC,aY⟩:=C.o _ ((eG _).trans bU))
    |(go_at_call 104;refine yaj (ah.o _ _ (by rw[IntKind.wrap_i64];omega) ((eG _).trans bU)) ?_;rintro e ci ⟨bd,⟨_,_⟩,aq,bP⟩;obtain rfl:=bd.o.1))
  all_goals (
   go_wp2_with fail
   refine yaz (v:=.tuple #[]) (by simp[results,results76,go_sem]) rfl ?_
   rw[bx.o]
   exact⟨rfl,bd.o.2.1,bd.o.2.2.1,Q.o.bad bd.o.2.2.2⟩)
 obtain⟨bc,aO,_⟩:=b5.o s v rfl;have cK:(0:Int)<=v:=xaa;have b2:=bc.g;have cu:E (r=.ok _):=S.o;clear b5 S bc
 go_region_held3 (λB=>B.cell? ⟨aJ,1,none⟩=some (hA U)/\B.cell? ⟨P,0,none⟩=some (hz g9 (ni+1) cap9)) (go_keep)
  (first
   |(go_at_call 46;refine yaj (ij _ _ _ _ _ _) ?_;rintro e cl ⟨rfl,bU⟩;obtain⟨aC,aY⟩:=C.o _ ((eG _).trans bU))
   |(go_at_call 104;refine yaj (ah.o _ _ (by rw[IntKind.wrap_i64];omega) ((eG _).trans bU)) ?_;rintro e bD ⟨bd,⟨_,_⟩,aq,bP⟩;obtain rfl:=bd.o.1))
 all_goals (
  obtain⟨_,a5,a7,z,G,a2,bv⟩:=bd.o
  have ct:E _:=Q.o.trans bv
  have bz:E _:=p.o.keepC bv.chg cQ.o
  have cq:¬Mst P _ _ _ _ _:=λc=>(bv.new _ c).elim cQ.o (λc=>hJ p.o.lt)
  clear bd bv ah C Q p cQ bn aX aY aC bU aq bP
  go_upto_region 50 with fail
  obtain⟨bW,a8,b4,b3,b0⟩:=ng
  have b1:=a2.c3
  have ca:=a2.fr 3
  have be:=a2.lt
  have cS:J<=bD.heap.size:=hJ a2.sz
  obtain⟨a4,cI,e4⟩:=jr a2.r4
  have ad:E (G.ownBlock≠some P/\G.ownBlock≠some _):=⟨a2.np.2.2.2,λc=>cq (.inr (.inr (.inr (.inr c))))⟩
  have bq:=bz.o.lt
  have bb:=bz.o.c2
  have a6:E _:=a2.r4
  have bJ:E _:=a2
  have cO:bs.length<=5000:=hL a2.nl b2.m
  clear a2
  subst e4
  generalize bC:bs.length=aV at*
  have bm:E _:=bC
  clear bC
  go_region_law
   ((refine step_append_lies _ rfl _ _ _ rfl J 157 _ _ 5 _ underlying123 a8 b4 b3 b0 rfl xab _ _ _ (by simp[Act.eval]) (kE a6.o 1 _) _ 1 1 (Bc.cells ⟨_,_,_,_,0,0,_,0,0⟩) (by simp[Act.eval]) rfl (Je _ _ _) (O0 _) xab (by unfold maxLen;omega) xaa yag _ rfl ?_;intro g9 cap9 bj bF aW bT cz;have aZ:=kG aW be ad.o.1 b1;have bG:=far2 aW be ad.o.1 ca;have ax:=kG aW bq ad.o.2 bb))
  all_goals
   have bQ:=bT.imp id (λe=>Nat.le_of_eq e.symm)
   have aQ:=(ez 0 0 bD (.cells #[eN u,.bool false,hA v,.slice none 0 0,.slice none 0 0] 157)).trans (eJ 0 0 _ 1)
   obtain⟨(o:E _),H⟩:=(bJ.o.keep aQ).nms_ (d:=.val u v) (n9:=aV+1) (gh aW) (by rw[yal,bm.o];rfl) (by rw[xR,xS];exact bF) bQ (λ_=>⟨rfl,rfl,rfl⟩)
   have bf:E _:=(ct.o.keep aQ).trans H
   clear H bQ aQ bF aW bT cz aZ bG ax
   go_wp2_with fail
   refine yaz (v:=.tuple #[]) (by simp[results,results76,go_sem]) rfl ?_
   rw[cu.o]
   exact⟨rfl,_,_,_,_,_,o.o,bf.o⟩)):Zp:=h
theorem cI.qge(h:Zp:=by
 have bB:=Y.tk.c0 3 xaa;have b8:=Y.tk.c1 3 xaa;have cg:=Y.tk.c2 3 xaa;rw[show([k,⟨_,_,_⟩,c,l]:List _).getD 3 _=l from rfl]at bB b8 cg;have cc:E _:=λI=>zQ l bl I;have al:=Y.tk.lt;have aT:=pK bl yad;rw[yap yad]at aT;obtain⟨bi,w,bk⟩:=l;unfold iR at cc;simp only at*;have c8:4<=m:=xaa;clear h Y O af bl am;generalize ay:ik _=K at*;have au:E _:=ay;clear ay;have bA:E (∀I,Kept 0 0 W I->I.cell? _=some _/\I.cell? _=some _/\I.cell? _=some _):=λI aj=>⟨(aj.cell al xaa).trans bB,(aj.cell al xaa).trans b8,(aj.cell al xaa).trans cg⟩
 clear bB b8 cg;exact qgr):Zp:=h
open cI in
theorem Mk{f W P J u1 u2 u3 u4 bs st g off m cap k n c l}(Y:TrIn W P J u1 u2 u3 u4 bs st none 0 [] g off m cap [k,n,c,l])(O:k.sym=kIn)(af:l.sym=iK){r}(h:iI f st (.inS n l)=some r):
  Calls prog 76 #[hy P,.slice (some ⟨g,off,none⟩) m cap] W (StO W P J u1 u2 u3 u4 r):=by
 have bl:=Y.ti l xac af;have am:=Y.tk.len;simp only[yaq,List.length_nil]at am;exact qfi
def PPz(ps us:List Tok):Prop:=(ps=[]/\us=[])\/PPm ps us
def noC(us:List Tok):List Tok:=us.filter λt=>!(t.sym==[44])
theorem ym(a b):noC (a++b)=noC a++noC b:=by unfold noC;grind
theorem Mm(h:PPm ps us):noC us=ps:=by
 induction h with
 |one h=>
  unfold noC;rw[List.filter_cons_of_pos (by rw[h];decide)];rfl
 |more _ ah ht G=>
  rename_i ps ts c t _;rw[ym,G];unfold noC;rw[List.filter_cons_of_neg (by grind),List.filter_cons_of_pos (by rw[ht];decide)];rfl
theorem Mn(h:PPz ps us):noC us=ps:=by
 rcases h with⟨rfl,rfl⟩|h
 ·rfl
 exact Mm h
theorem Mo(h:PPz ps us):∀t∈us,(t.sym==[41])=false:=by
 rcases h with⟨rfl,rfl⟩|h
 ·grind
 intro t ht;rcases Hc h t ht with c|c<;>(rw[c];decide)
theorem Jg(w p r):Hz w (p::r)=if w.any (λq=>q.text==p.text)=true then some p.pos else Hz (w++[p]) r:=rfl
def oK(us:List Tok)(j:Nat):Option Nat:=Hz (noC (us.take j)) (noC (us.drop j))
theorem Jh(h:j<us.length):us.take (j+1)=us.take j++[us.getD j hG]/\us.drop j=us.getD j hG::us.drop (j+1):=by
 simp_all
theorem v6{t}(h:(t.sym==[44])=true):noC [t]=[]:=by grind[noC]
theorem BO(h:j<us.length)(c:((us.getD j hG).sym==[44])=true):noC (us.take (j+1))=noC (us.take j)/\oK us (j+1)=oK us j:=by
 obtain⟨ae,a9⟩:=Jh h
 have ai:noC (us.drop j)=noC (us.drop (j+1)):=by
  rw[a9,<-List.singleton_append,ym,v6 c,List.nil_append]
 have e4:noC (us.take (j+1))=noC (us.take j):=by rw[ae,ym,v6 c,List.append_nil]
 refine⟨e4,?_⟩;unfold oK;rw[e4,ai]
theorem Ji(h:j<us.length)(c:((us.getD j hG).sym==[44])=false):noC (us.take (j+1))=noC (us.take j)++[us.getD j hG]/\((noC (us.take j)).any (λq=>q.text==(us.getD j hG).text)=true->oK us j=some (us.getD j hG).pos)/\((noC (us.take j)).any (λq=>q.text==(us.getD j hG).text)=false->oK us (j+1)=oK us j):=by
 grind[Jh,noC,oK,Jg]
