import Derived.BigQuiet
import Derived.BigRegion
import Derived.Deep.AppendLies
import Derived.Deep.AppendSrc
import Derived.Deep.DeepCutAuto
import Derived.Deep.DrawnRows
import Derived.Deep.Draws
import Derived.Deep.LoopGhost
import Derived.Deep.Quiet
import Derived.Deep.QuietTactic
import Derived.Deep.RegionHeld3
import Derived.Deep.RegionLaw
import Derived.Deep.RegionWith
import Derived.Deep.Slices
import Derived.DeepKeys4
import Derived.Laws.BytesArg
import Derived.Laws.Cover3
import Derived.Laws.FloatArith
import Derived.Laws.OwnMore
import Derived.Lib.Bytes
import Derived.Lib.ConvBytes
import Derived.Lib.EndianBits
import Derived.LoopIn
import Derived.LoopNIn
import Derived.Maps.OwnOps
import Derived.Maps.OwnSet
import Derived.OpenShut
import Derived.OwnWalkIn
import Derived.ProofKit
import Derived.RangeFuncBound
import Derived.RangeFuncCalls
import Derived.RangeFuncLeaves
import Derived.RangeFuncNested
import Derived.Shelf.Abstract
import Derived.Shelf.Bytes.SlSmallAll
import Derived.Shelf.RegionOpen
import Derived.StillTail
import Derived.TacticsInMore
import Derived.WalkKit
import Derived.WalkLawsBesides
import Derived.WalkSpells
namespace Go.Proofs.Z
variable{Zp:Prop}
def V(p:Prop):Prop:=p
theorem V.o{p}(h:V p):p:=h
theorem jL{p q:Prop}(h:q)(g:q->p:=by intro x;rw[x];rfl):p:=g h
theorem jx{p q:Prop}(h:q)(g:q->p:=by intro x;rw[x];omega):p:=g h
theorem jv{p q r:Prop}(h:q)(k:r)(g:q->r->p:=by intro x y;rw[<-x];exact y):p:=g h k
theorem jn{p q r:Prop}(h:q)(k:r)(g:q->r->p:=by intro x y;rw[x];exact y):p:=g h k
theorem jj{p q r:Prop}(h:q)(k:r)(g:q->r->p:=by intro _ _;omega):p:=g h k
theorem i4{p q:Prop}(h:q)(g:q->p:=by intro _;omega):p:=g h
theorem ix{α:Type _}{a b:α}(h:some a=some b):a=b:=Option.some.inj h
theorem iv{c:Prop}{d:Decidable c}(h:c){α:Sort _}{t e:α}:ite c t e=t:=if_pos h
theorem ip{c:Prop}{d:Decidable c}(h:¬c){α:Sort _}{t e:α}:ite c t e=e:=if_neg h
open Go.RowKit
theorem yaa{A B}{n:Nat}:A∨B∨n≤n:=.inr (.inr (Nat.le_refl _))
theorem yab{A}{n:Nat}:A∨n≤n:=.inr (Nat.le_refl _)
theorem yac{A n}:(n≤n∧n<n+1)∨A:=.inl ⟨Nat.le_refl _,Nat.lt_succ_self _⟩
theorem yad{n:Nat}:n≤n:=Nat.le_refl _
theorem yae{n}:0≤n:=Nat.zero_le _
theorem yaf{n}:n<n+1:=Nat.lt_succ_self _
theorem yag(h:Zp:=by simp;omega):Zp:=h
theorem yah(h:Zp:=by show(0:Nat)<18446744073709551616;decide):Zp:=h
theorem yai.{u}{α:Type u}{l:List α}{i a}:l.getD i a=l[i]?.getD a:=List.getD_eq_getElem?_getD
theorem yaj{P f args w R R'}(h:Calls P f args w R)(g:∀e w',R e w'→R' e w'):Calls P f args w R':=h.mono g
theorem yak{n m k:Nat}(h:n<m)(g:m≤k):n<k:=Nat.lt_of_lt_of_le h g
theorem yal.{u}{α:Type u}{s t:List α}:(s++t).length=s.length+t.length:=List.length_append
theorem yam.{u}{α:Type u}{l:List α}{i}(h:i<l.length):l[i]?=some l[i]:=List.getElem?_eq_getElem h
theorem yan.{u}{α:Type u}[BEq α][LawfulBEq α]{a b:α}(h:a≠b):(a==b)=false:=beq_eq_false_iff_ne.2 h
theorem yao{n m k:Nat}(h:n≤m)(g:m≤k):n≤k:=Nat.le_trans h g
theorem yap.{u}{α:Type u}{i}{l:List α}(h:l.length≤i):l.take i=l:=List.take_of_length_le h
theorem yaq.{u}{α:Type u}{a}{s:List α}:(a::s).length=s.length+1:=rfl
theorem yar{a b:ByteArray}:(a++b).size=a.size+b.size:=ByteArray.size_append
theorem yas.{u}{α:Type u}{l r:List α}{i}(h:l.length≤i):(l++r)[i]?=r[i-l.length]?:=List.getElem?_append_right h
theorem yat.{u}{α:Type u}{l r:List α}{i}(h:i<l.length):(l++r)[i]?=l[i]?:=List.getElem?_append_left h
theorem yau.{u}{α:Type u}{i}{l:List α}(h):l.take (i+1)=l.take i++[l[i]]:=List.take_succ_eq_append_getElem h
theorem yav(w:World)(c t i):(w.alloc (.cells c t)).cell? ⟨w.heap.size,i,none⟩=c[i]?:=World.cell?_alloc_new w c t i
theorem yaw(w:World)(b e s):w.ownsRow b e s (.slice none 0 0) 0 []:=World.ownsRow_nil w b e s
theorem yax.{u}{α:Type u}[BEq α][LawfulBEq α]{a b:α}(h:a≠b):(a==b)=false:=beq_false_of_ne h
theorem yay{p}[Decidable p](h:¬p):decide p=false:=decide_eq_false h
theorem yaz{P fn R a w v}(h:Sem.run P (results fn a.tmps) w=.ok v w)(g:a.defers=[])(k:R (.returned v) w):bodyPost P fn R .ret a w:=bodyPost_ret h g k
open Go.RowKit
abbrev ge(b:Nat):Value:=.pointer (some ⟨b,0,none⟩)
abbrev ia(b n c:Nat):Value:=.slice (some ⟨b,0,none⟩) n c
abbrev ih(x:Int):Value:=.int .i64 x
theorem xaa(h:Zp:=by omega):Zp:=h
theorem xab(h:Zp:=by decide):Zp:=h
theorem xac(h:Zp:=by simp):Zp:=h
theorem xad(h:Zp:=by
 rw[<-HE.o]at H;have l:V _:=bO.o;generalize jO vs (ft vs outs ae) i=st at H l;have bj:=bG.o i aY;have ch:=bK.o (i+1) xaa;rw[C,ci]at bj
 have bc:V (fH vs (ft vs outs ae) (i+1)=if fH vs (ft vs outs ae) i<P+v.len then P+v.len else fH vs (ft vs outs ae) i):=by
  show _=_;rw[fH,C,ci]
 generalize fH vs (ft vs outs ae) i=ay at H bc;obtain⟨_,bC,bH,bJ,cb,_,f1,_,f3⟩:=H.o.lp.bx;obtain⟨a0,av,aT,G,cB,ck,aq,aB⟩:=H.o.ta;simp only[Nat.zero_add]at av aT G cB ck aq aB;have bX:=H.o.lp.bz;have ds:=H.o.lt;go_wp2_with (first|(at_builtin;refine wpList_append_lies _ rfl _ _ 25 rfl (aM.heap.size+1) 43 bY Ste.zero.agg 8 64 underlying25 cU cg b8 cc rfl xab _ _ (gL (gj vs (ft vs outs ae) i)) rfl (H.o.lp.pu.alloc _) ⟨r.heap.size,0,none⟩ 1 1 st.cells rfl rfl (rz r st 0) (zL st) xab (by unfold maxLen;omega) xaa yag _ rfl ?_;intro g9 cap9 a7 Z bp br cr;obtain⟨_,ag,m1,b6,m3,_,a5,_,ba⟩:=LP.mid (z:=0) H.o.lp yaf bp)|fail);have bE:u.ownBlock=some g9\/g9=r.heap.size+1:=br.imp (λh=>h) (λe=>by rw[e];simp);have R2:V _:=LP.putU (z:=0) (s:=st) H.o.lp yaf Z bp bE;rw[<-l.o]at R2;have I:a7.cell? ⟨wr.heap.size,1,none⟩=some (ih v.len):=jS (m:=0) bp (i4 H.o.vs) (λc=>i4 (cH.o _ c)) (by have:=H.o.va.c1;rw[Nat.zero_add]at this;exact this)
 have au:(a7.setCell ⟨aM.heap.size,1,none⟩ (ia g9 (i+1) cap9)).cell? ⟨wr.heap.size,1,none⟩=some (ih v.len):=by
  rw[eG _ _ _ _ _ _ (.inl (i4 H.o.bv))];exact I
 have bQ:V (Kept 0 0 aM (a7.setCell ⟨aM.heap.size,1,none⟩ (ia g9 (i+1) cap9))):=Chg.kept (Kept.refl 0 0 aM) R2.o.ch (λb hb=>by rcases hb with h|h<;>omega);have bh:V (wr.heap.size<(a7.setCell ⟨aM.heap.size,1,none⟩ (ia g9 (i+1) cap9)).heap.size):=World.block_lt_of_cell? _ _ au;clear Z bp br bE cr ag m1 b6 m3 a5 ba bC bH bJ cb f1 f3 a0 av aT G cB ck aq aB I H l X;generalize a7.setCell ⟨aM.heap.size,1,none⟩ (ia g9 (i+1) cap9)=aK at R2 au bQ bh⊢;obtain⟨_,bC,bH,bJ,cb,_,_,_,f3⟩:=R2.o.bx;obtain⟨da,db,t,ad,be,_,d3,b5⟩:=(aj.o.keep bQ.o yaa).at_idx (o:=i) xaa xaa;cases ad;obtain rfl:i=t:=xaa;rw[Int.toNat_natCast,C]at b5;have bM:=fV bT.o;rw[ci]at bM;by_cases Q:ay<P+v.len
 ·exact xaw
 exact xbr):Zp:=h
theorem xae(h:Zp:=by
 conv=>arg 2;whnf
 go_region_with (first
  |(go_at_call 59;refine yaj (bi.o _ ((eD W).trans ap)) ?_;rintro e ak ⟨aI,cap',rfl,⟨u0,bo⟩,⟨u1,ar⟩,⟨u2,aQ⟩,aj,_,a7⟩;have bR:=aj 0;have bV:=aj 1;have bW:=aj 2;clear aj)
  |(go_at_call 60;refine yaj (gq _ _ _ _ _ _) ?_;rintro e aK ⟨rfl,ap⟩;have bG:=(MS.keep Z.o ((eD W).trans ap)).g.c0;have bn:=(MS.keep Z.o ((eD W).trans ap)).g.c1;have p2:=(MS.keep Z.o ((eD W).trans ap)).g.c2))
 all_goals exact HK _ ⟨_,_,_,⟨rfl,by simp⟩,by simp,a7⟩):Zp:=h
theorem xaf(h:Zp:=by
 have a0:=Z.o.g.c0;have av:=Z.o.g.c1;have aT:=Z.o.g.c2;exact xae):Zp:=h
theorem xag(h:Zp:=by
 unfold MfC;intros;rename_i HK;have a0:=Z.o.g.c0;have av:=Z.o.g.c1;have aT:=Z.o.g.c2;obtain⟨_,bm,aW,bd,bC,bH,bJ⟩:=Z.o.b;have be:V (∀W:World,_):=λW=>iV W R K U m1 ad vs.length cap m3 ah xaa;rw[bL]at be;clear bL;conv=>arg 2;whnf
 go_region_with (first
  |(go_at_call 66;refine yaj (be.o _) ?_;rintro e aM ⟨rfl,a9⟩;clear bm aW bd bC bH bJ;obtain⟨⟨_,_,aU,ax,aF,_,_,_,_⟩,⟨_,bm,aW,bd,bC,bH,bJ⟩,_,_,_,_,_⟩:=MS.keep Z.o ((eD W).trans a9)))
 all_goals
  obtain⟨a8,aJ,aP⟩:=fd aM (w.heap.size+1) _ _ _ bm aW bd (.slice R m1 ad) (.slice K vs.length cap) (.slice U m3 ah)
  exact HK _ ⟨a8,aJ,aP,⟨aM,(eD W).trans a9,rfl⟩⟩):Zp:=h
theorem xah(h:Zp:=by
 have bi:V _:=j8 ((aO.o _ br.o.k).cut (i:=i) b.o.2) (cap-i);have aD:=b.o.1;have bX:(0:Int)<=i:=xaa;have aV:(i:Int)<=j:=xaa;have bg:(j:Int)<=cap:=i4 b.o.2
 have ad:((j:Int)-i).toNat=j-i:=xaa;have aP:=br.o.t.c2;have bw:=br.o.t.fr 2;have ai:=bi.o;go_upto_region 25 with fail;change Code.wp _ _ _ _ (wr.setCell _ (eL _));have d:V _:=br.o.text (kJ t i j);clear bi ai aP bw aD bX aV bg ad;generalize wr.setCell _ _=aq at d⊢;generalize aH:kJ t i j=x at d;have bA:V _:=aH;clear aH;obtain⟨_,bo,ar,aQ,aj⟩:=d.o.r;obtain⟨_,bm,aW,bd,C⟩:=d.o.t;have bR:=aj 0;have bV:=aj 1;have bW:=aj 2;have H:V _:=d.o.fin;clear aj C d;go_wp2_with fail;change bodyPost _ _ _ _ _ (((aq.setCell _ (eL _)).setCell _ _).setCell _ (eL x));generalize ((aq.setCell _ _).setCell _ _).setCell _ _=bP at H⊢;obtain⟨⟨_,bT,f1,f2,_⟩,q⟩:=H.o;refine yaz (v:=.tuple #[.agg #[eL ik,ih i,eL x],ih j]) (by simp[results,results98,go_sem,bT,f1,f2]) rfl ⟨?_,q⟩;rw[bM.o.1,bM.o.2,bA.o];rfl):Zp:=h
theorem xai(h:Zp:=by
 clear Z;unfold PfK;intros;rename_i wc X;obtain⟨g,aI,cap',b,ao,Z⟩:=X;go_wp2_with fail;refine fo (ku Z xaa (show(g.length:Int)-1=(vs.length:Nat) by have:=b.o.2;omega) ?_);unfold PfK;intros;rename_i aM X;obtain⟨a8,aJ,aP,HR⟩:=X;go_wp2_with fail;exact yaz (by simp[results,results129,go_sem,a8,aJ,aP]) rfl (MS.finPR Z.o HR.o (by rw[b.o.1]<;>simp))):Zp:=h
theorem xaj(h:Zp:=by
 obtain⟨D,bI⟩:=Int.eq_ofNat_of_zero_le S.1;obtain⟨d,I⟩:=Int.eq_ofNat_of_zero_le (show 0<=s.len by omega);have HD:V (s.dst+s.len=((D+d:Nat):Int)):=by show _=_;omega
 have aP:D+d<=n:=xaa;have aq:V (g≠P):=by show _≠_;have:=bD.o;have:=aF.o;omega
 have HE:V (∀w,Calls prog 56 #[(Spn.mk (D:Int) (d:Int)).agg] w λe O=>e=.returned (ih ((D:Int)+d))/\Kept 0 0 w O):=λw=>qA w (Spn.mk (D:Int) (d:Int)) (by show -1000000<=(D:Int)+d/\(D:Int)+d<=1000000;omega);have ae:V (AtP _ P 0 (Spn.mk s.dst s.len)/\P<_):=⟨r.o,X⟩
 have au:V _:=(av.o.mono (lo':=g) (hi':=g+1) λb _ c=>by omega)
 have ah:V (BL _ g n (i6 af i s (D:Int))):=BL.congr Y.o (λk _=>by rw[rC af i s k,bI]);rw[bI]at aU;go_wp2_with fail;clear aU ax r av Y;go_loopw [8] (λx W=>∃j:Nat,D<=j/\j<=D+d/\x=ih j/\V (BL W g n (i6 af i s (j:Int)))/\V (AtP W P 0 (Spn.mk s.dst s.len)/\P<W.heap.size)/\V (Kept g (g+1) w W)) (λx _=>D+d-(intOf x).toNat)
 case atStart=>exact⟨D,yad,by omega,rfl,ah,ae,au⟩
 case round=>
  exact xap):Zp:=h
theorem xak(h:Zp:=by
 go_enter func106,ntmps106
 go_wp2_with ((first
  |(go_at_call 107;refine(A.2 _ _ aG).mono ?_)
  |(go_at_call 11;refine(nxS aG.o).mono ?_)
  |(go_at_call 121;refine(I.2 _ _ aG).mono ?_)
  |(go_at_call 89;refine((D _).2 _ _ aG).mono ?_));rintro e aK ⟨rfl,a5⟩;clear aG;have aG:V _:=a5;clear a5)
 go_ret;exact⟨rfl,aG.o⟩):Zp:=h
theorem xal(h:Zp:=by
 obtain⟨aV,bg,bq,bB,ar,ae,bI⟩:=bi.o.ex;have b0:Mv (Mst P u1 u2 u3 u4) aq (Mst P aV bg bq bB) wr:=⟨ae.chg,λb hb=>ae.new b (.inl hb)⟩
 obtain⟨dd,cU,cW,cX⟩:=mq _ es st H bY.o k (jn a6.o aY) s xs bp.o;obtain⟨o,Y,c1,y,cG⟩:=m.o.call k (jn a6.o aY);obtain⟨cl,cV⟩:=cG s dd wr aV bg bq bB v.o cU ar ((Mv.of HK.o).trans b0);rw[<-m.o.cell ((Mv.of HK.o).trans b0).chg k]at y;have cM:V _:=cW;have cT:V _:=cX;have cN:V _:=cl;have cf:V _:=cV;have aF:V _:=ae;have cq:V _:=bI;have cQ:V _:=(Mv.of (M:=Mst P u1 u2 u3 u4) HK.o).trans b0;clear cU cW cX cl cV cG ar ae bI b0;rcases dd with⟨c,p⟩|⟨aT,K⟩
 ·exact xca
 exact xas):Zp:=h
theorem xam(h:Zp:=by
 have ag:=ba.o;generalize Lib.bytesWorld _ 5 _=bU at q bv u;generalize wr.heap.size=U at q bv;generalize grownCap _ _ 0 5=az at q;go_upto_region 12 with (go_at_call 87;refine yaj (qM _ _ _ _ _ bv.o xaa) ?_;rintro e bx ⟨b0,c,rfl,C,bI⟩);have bb:V _:=(aS.o.trans u.o).trans (bI.kept 0 0);have ek:=cO.o _ (u.o.trans (bI.kept 0 0));rcases Q.o with⟨x,z⟩|⟨d,bj⟩
 ·exact xfr
 exact xao):Zp:=h
theorem xan(h:Zp:=by
 have bc:=Z.o.v.c3;exact xae):Zp:=h
theorem xao(h:Zp:=by
 have l:c=bw/\c≠0:=by
  exact xds
 have bQ:(c !=0)=true:=by unfold bne;rw[yax l.2];rfl
 have J:V _:=bZ.o.trans bb.o;obtain⟨aR,ca,a2,fr⟩:=bD.o _ J.o;have bT:=fr 0;have f1:=fr 1;have f2:=fr 2
 have av:(((bx.drew.setCell ⟨bP,0,none⟩ (.slice none 0 0)).setCell ⟨bP,1,none⟩ (.slice none 0 0)).setCell ⟨bP,2,none⟩ (.slice none 0 0)).cell? ⟨am,i*3+1,none⟩=some (ih ps):=by
  exact xil
 obtain⟨a8,aJ,aP⟩:=fd _ _ _ _ _ aR ca a2 (.slice none 0 0) (.slice none 0 0) (.slice none 0 0);have bX:(bx.setCell ⟨_,0,_⟩ _).cell? _=some (.slice none 0 0):=fc _ _ _ _ _ aR;have aV:((bx.setCell ⟨bP,0,_⟩ (.slice none 0 0)).setCell _ _).cell? _=some (.slice none 0 0):=fc _ _ _ _ _ ((eG _ _ _ _ _ _ (.inr xaa)).trans ca);have H:V (Kept 0 0 w (((bx.drew.setCell _ (.slice none 0 0)).setCell _ (.slice none 0 0)).setCell _ (.slice none 0 0))):=Ab ((HK.o.trans J.o).trans (eD _)) (Nat.le_of_eq ay.o) _ _ _;have an:V _:=k.o d;have r:V _:=l.1;clear l bj C d Q bv u q bI aU ax aF fr bD;go_upto_region 13 with fail;go_region
 all_goals (
  go_wp2_with fail
  refine yaz (v:=.tuple #[vM,ih c,ih ps]) (by simp[results,results64,go_sem,bX,aV,aP]) rfl ?_
  rw[<-bq.o,an.o,<-r.o]
  exact⟨rfl,H.o⟩)):Zp:=h
theorem xap(h:Zp:=by
 obtain⟨j,ad,N,rfl,m,l,ai⟩:=hrel;obtain⟨aU,ax⟩:=l.o.1;rw[Nat.zero_add]at ax;go_wp2_with fail;refine yaj (HE.o _) ?_;rintro e bW ⟨rfl,ag⟩;have u:V _:=BL.keep m.o ag yaa;have C:V _:=Kept.trans ai.o (ag.mono (lo':=g) (hi':=g+1) λb _ c=>by omega);have v:V (AtP bW P 0 (Spn.mk s.dst s.len)/\P<bW.heap.size):=⟨AtP.keep l.o.1 l.o.2 ag yaa,yak l.o.2 ag.size⟩
 clear aU ax ag m ai l;simp only;by_cases ab:j<D+d
 ·exact xbk
 exact xfj):Zp:=h
theorem xaq(h:Zp:=by
 obtain⟨⟨B,bf,bb,bc,C,au⟩,cd,bh,bx,x,aZ,hn,Z,HO⟩:=ab.op R U m1 ad m3 ah;clear ab;unfold MvC;go_enter func130,ntmps130;go_wp2_with fail;rw[aZ.o];clear B bf bb bc C au aZ;refine fo (EX Z xaa ?_);clear Z;unfold MfK;intros;rename_i wc X;obtain⟨g,aI,cap',b,ao,Z⟩:=X;obtain⟨_,_,a0,av,aT,_,_,_,_⟩:=Z.o.g;go_wp2_with fail;refine(MS.lst Z.o xaa (show(g.length:Int)-1=(vs.length:Nat) by have:=b.o.2;omega)).mono ?_;clear Z a0 av aT;rintro e t ⟨rfl,Z⟩;obtain⟨_,_,a0,av,aT,_,_,_,_⟩:=Z.o.g;go_wp2_with fail;refine(MS.orX Z.o _ _ xaa).mono ?_;clear Z a0 av aT;rintro e ak ⟨vs2,z,y,e5,h,di,m,v,rfl,⟨_,bo⟩,⟨_,ar⟩,⟨_,aQ⟩,bR,bV,bW,bI,Z⟩;go_wp2_with fail;rw[bI.o];clear bI bo ar aQ bR bV bW;obtain⟨_,_,a0,av,aT,_,_,_,_⟩:=Z.o.g;go_wp2_with fail;refine(MS.orX Z.o _ _ xaa).mono ?_;clear Z a0 av aT;rintro e ak ⟨q,N,I,J,H,di,k,F,rfl,⟨_,bo⟩,⟨_,ar⟩,⟨_,aQ⟩,bR,bV,bW,bI,Z⟩;go_wp2_with fail;rw[bI.o];clear bI bo ar aQ bR bV bW;refine fo (wM Z xaa ?_);clear Z;unfold MfK;intros;rename_i wc X;obtain⟨j,aI,cap',d,a7,Z⟩:=X;go_wp2_with fail;have bY:=FA xaa xaa b.o.1 m.o k.o d.o.1;exact no_implicit_lambda% xbm):Zp:=h
theorem xar(h:Zp:=by
 obtain⟨k,J,rfl,b1⟩:=hrel;by_cases u:k<15
 ·exact xbv
 exact xby):Zp:=h
theorem xas(h:Zp:=by
 obtain⟨bU,cd⟩:=cN.o aT K rfl;have ea:¬((K:Int)<0):=xaa;have bA:V _:=cT.o aT K rfl;have cP:V _:=v.o.trans bU
 have cJ:V (∀i∈xs++[K],i<aT.vs.length):=by
  exact xcz
 go_upto_region 41 with (go_at_call 102;refine yaj cf.o ?_;rintro e bx ⟨rfl,aJ,aP,bw,b3,aR,bX⟩);have HFn:V _:=FtI.step aF.o cq.o bi.o.row aR bX;have cI:V (aq.heap.size<=bx.heap.size):=by show _<=_;have:=aF.o.chg.size;have:=bX.chg.size;omega
 have cR:V _:=cP.o.m;have b1:(bx.alloc (.cells #[ih K] 3)).cell? ⟨bx.heap.size,0,none⟩=some (ih K):=by rw[yav];rfl
 have aL:=eA 0 0 bx (.cells #[ih K] 3);have aN:V _:=HFn.o.keep aL;clear HFn bi aF cq cQ cN cf cM cT y aR bX v J bp bU;go_wp2_with (first|(at_builtin;refine jr _ rfl _ _ rfl aq.heap.size _ xs rfl aN.o.row ⟨bx.heap.size,0,none⟩ K rfl b1 ?c2 ?c3 ?_)|fail)
 case c2=>have:=aD.o;omega
 case c3=>have:=cI.o;simp;omega
 intro g9 cap9 n9 a7 a2 aQ ap bV;have R1:V _:=FtI.app (st:=aT) (bF.o.keep HK.o) cR.o aN.o aQ ap (bV.imp id (λe=>by rw[e];simp));exact xcv):Zp:=h
theorem xat(h:Zp:=by
 clear Z;unfold MfK;intros;rename_i wc X;obtain⟨g,aI,cap',b,ao,Z⟩:=X;obtain⟨_,_,a0,av,aT,_,_,_,_⟩:=Z.o.g;go_wp2_with fail;refine(MS.lst Z.o xaa (show(g.length:Int)-1=(vs.length:Nat) by have:=b.o.2;omega)).mono ?_;clear Z a0 av aT;rintro e t ⟨rfl,Z⟩;have B:=Z.o.v.c0;have h:(0:Int)<=(vs.length:Nat):=xaa;obtain⟨_,_,a0,av,aT,_,_,_,_⟩:=Z.o.g;obtain⟨_,bm,aW,bd,bC,bH,bJ⟩:=Z.o.b;go_wp2_with fail;obtain⟨a8,aJ,aP⟩:=fd _ _ _ _ _ bm aW bd (.slice R m1 ad) (ia aI g.length cap') (.slice U m3 ah);exact yaz (by simp[results,results130,go_sem,a8,aJ,aP]) rfl (MS.fin Z.o i3 (by rw[b.o.1]<;>simp))):Zp:=h
theorem xau(h:Zp:=by
 go_upto_region 31 with fail;obtain⟨_,bm,aW,bd,_,_,_⟩:=ae.o.bx;obtain⟨_,bo,ar,aQ,bR,bV,bW⟩:=ae.o.rs;go_wp2_with fail;obtain⟨bG,bn,p2⟩:=fd _ _ _ _ _ bo ar aQ (.slice a1 ins.length c1) (ia g vs.length c2) (.slice a3 outs.length c3);exact yaz (v:=eX a1 ins.length c1 (some ⟨g,0,none⟩) vs.length c2 a3 outs.length c3) (by simp[results,results84,go_sem,bG,bn,p2]) rfl am.o):Zp:=h
theorem xav(h:Zp:=by
 refine⟨⟨#[102,105,108,108,40]⟩++av++⟨#[44,32]⟩++aT++⟨#[41]⟩,bh,f9 (by simp only[yar,fX,yaq,List.length_nil];omega) xab λz X W aG=>?_⟩;repeat (rw[yar]at z;refine sz2 z ?_;clear z;intro _ z)
 exact xak):Zp:=h
theorem xaw(h:Zp:=by
 rw[iv Q]at bc;have R3:V _:=LP.putP R2.o yaf (P+v.len);go_region
 all_goals
  go_wp2_with fail
  go_region
  all_goals
   go_wp2
   go_roundw;exact⟨i+1,_,by omega,by go_num,by rw[bc.o];exact R3.o.keep ((eD _).trans (eD _))⟩;simp[intOf];omega):Zp:=h
theorem xax(h:Zp:=by
 obtain⟨⟨B,bf,bb,bc,C,au⟩,cd,bh,bx,x,aZ,hn,Z,HO⟩:=ab.op R U m1 ad m3 ah;clear ab;unfold MvC;go_enter func130,ntmps130;go_wp2_with fail;rw[aZ.o];clear B bf bb bc C au aZ;obtain⟨_,_,a0,av,aT,_,_,_,_⟩:=Z.o.g;refine(MS.orX Z.o _ _ xaa).mono ?_;clear Z a0 av aT;rintro e ak ⟨g,G,j,t,d,di,b,ao,rfl,⟨_,bo⟩,⟨_,ar⟩,⟨_,aQ⟩,bR,bV,bW,bI,Z⟩;go_wp2_with fail;rw[bI.o];clear bI bo ar aQ bR bV bW;obtain⟨_,_,a0,av,aT,_,_,_,_⟩:=Z.o.g;go_wp2_with fail;refine(MS.orX Z.o _ _ xaa).mono ?_;clear Z a0 av aT;rintro e ak ⟨vs2,z,y,e5,h,di,m,v,rfl,⟨_,bo⟩,⟨_,ar⟩,⟨_,aQ⟩,bR,bV,bW,bI,Z⟩;go_wp2_with fail;rw[bI.o];clear bI bo ar aQ bR bV bW;refine fo (wM Z xaa ?_);clear Z;unfold MfK;intros;rename_i wc X;obtain⟨q,aI,cap',k,F,Z⟩:=X;go_wp2_with fail;have bY:=Fz xaa xaa b.o m.o k.o.1;exact no_implicit_lambda% xbm):Zp:=h
theorem xay(h:Zp:=by
 intros;rename_i HK;have bi:V (∀aq,Kept 0 0 W aq->_):=λaq k=>MS.call Z.o k (eK 5 Q aZ f 0) xaa;have a0:=Z.o.g.c0;have av:=Z.o.g.c1;have aT:=Z.o.g.c2;have bc:=Z.o.v.c3;have be:V (∀W:World,_):=λW=>iV W R K U m1 ad vs.length cap m3 ah xaa;rw[bL]at be;clear bL;conv=>arg 2;whnf
 go_region_with (first
  |(go_at_call 59;refine yaj (bi.o _ (((eD W).trans y).trans ap)) ?_;rintro e ak ⟨aI,cap',rfl,⟨u0,bo⟩,⟨u1,ar⟩,⟨u2,aQ⟩,aj,_,a7⟩;have bR:=aj 0;have bV:=aj 1;have bW:=aj 2;clear aj)
  |(go_at_call 66;refine yaj (be.o _) ?_;rintro e t ⟨rfl,y⟩;have a5:=(MS.keep Z.o ((eD W).trans y)).g.c0;have cj:=(MS.keep Z.o ((eD W).trans y)).g.c1;have cw:=(MS.keep Z.o ((eD W).trans y)).g.c2;have bq:=(MS.keep Z.o ((eD W).trans y)).v.c3)
  |(go_at_call 60;refine yaj (gq _ _ _ _ _ _) ?_;rintro e aK ⟨rfl,ap⟩;have bG:=(MS.keep Z.o (((eD W).trans y).trans ap)).g.c0;have bn:=(MS.keep Z.o (((eD W).trans y).trans ap)).g.c1;have p2:=(MS.keep Z.o (((eD W).trans y).trans ap)).g.c2))
 all_goals exact HK _ ⟨_,_,_,⟨rfl,by simp⟩,by simp,a7⟩):Zp:=h
theorem xaz(h:Zp:=by
 go_upto_region 24 with fail;clear c1;exact xah):Zp:=h
theorem xba(h:Zp:=by
 generalize W.heap.size=bP at ao⊢;have bE:=ao.o.c0;clear c0 c1 c2 K bl;go_upto_region 22 with fail;have a6:=ao.o.c2;have O:=Lib.run_convert_string_bytes (P:=prog) aq 9 22 5 ⟨br.toArray⟩ underlying9 underlying22 underlying5;have bv:V _:=qr aq 5 br;have bN:V _:=mL aq 5 ⟨br.toArray⟩;have b9:(⟨br.toArray⟩:ByteArray).size=br.length:=rfl;rw[b9]at O;have q:(convert 9 22 (eL br)).run prog aq=_:=O;clear O b9;generalize Lib.bytesWorld aq 5 ⟨br.toArray⟩=bU at q bv bN;generalize aq.heap.size=U at q bv;generalize grownCap aq br.length 0 5=az at q;go_upto_region 23 with (go_at_call 87;refine yaj (qM bU _ _ _ _ bv.o xaa) ?_;rintro e bx ⟨f,c,rfl,C,bI⟩);obtain⟨rfl,rfl⟩:=qU bu.o C;have b0:V _:=bN.o.trans (bI.kept 0 0);have R:=(ao.o.keep b0.o).c1;have cS:V _:=ai.o bx (HK.o.trans b0.o);clear ai bv bN q bI C bE a6 ao b0 HK bu;generalize oh br=nk at cS;go_wp2_with (go_at_call 105;refine yaj cS.o ?_;rintro e bz ⟨⟨x,rfl⟩,bh⟩);go_ret;exact bh.o):Zp:=h
theorem xbb(h:Zp:=by
 have bi:V _:=j8 ((aO.o _ bF.o.k).cut (i:=i) b.o.2) (cap-i);have aD:=b.o.1;have bX:(0:Int)<=i:=xaa;have aV:(i:Int)<=k:=xaa;have bg:(k:Int)<=cap:=i4 b.o.2
 have ad:((k:Int)-i).toNat=k-i:=xaa;have aP:=bF.o.t.c2;have bw:=bF.o.t.fr 2;have ai:=bi.o;go_upto_region 25 with fail;change Code.wp _ _ _ _ (wr.setCell _ (eL _));have d:V _:=bF.o.text (kJ t i k);clear bi ai aP bw aD bX aV bg ad;generalize wr.setCell _ _=aq at d⊢;generalize aH:kJ t i k=x at d;have bA:V _:=aH;clear aH;obtain⟨_,bo,ar,aQ,aj⟩:=d.o.r;obtain⟨_,bm,aW,bd,C⟩:=d.o.t;have bR:=aj 0;have bV:=aj 1;have bW:=aj 2;have H:V _:=d.o.fin;clear aj C d;go_wp2_with fail;change bodyPost _ _ _ _ _ (((aq.setCell _ (eL _)).setCell _ _).setCell _ (eL x));generalize ((aq.setCell _ _).setCell _ _).setCell _ _=bP at H⊢;obtain⟨⟨_,bT,f1,f2,_⟩,q⟩:=H.o;refine yaz (v:=.tuple #[.agg #[eL kK,ih i,eL x],ih k]) (by simp[results,results98,go_sem,bT,f1,f2]) rfl ⟨?_,q⟩;rw[bM.o.1,bM.o.2,bA.o];rfl):Zp:=h
theorem xbc(h:Zp:=by
 go_region_law (fail)
 all_goals
  generalize (bU.setCell ⟨g,_,_⟩ _).drew=cd at ae am⊢
  obtain⟨_,bm,aW,bd,_,_,_⟩:=ae.o.bx
  obtain⟨_,bo,ar,aQ,bR,bV,bW⟩:=ae.o.rs
  go_wp2_with fail
  obtain⟨bG,bn,p2⟩:=fd _ _ _ _ _ bo ar aQ (.slice a1 ins.length c1) (ia g vs.length c2) (.slice a3 outs.length c3)
  exact yaz (v:=eX a1 ins.length c1 (some ⟨g,0,none⟩) vs.length c2 a3 outs.length c3) (by simp[results,results84,go_sem,bG,bn,p2]) rfl am.o):Zp:=h
theorem xbd(h:Zp:=by
 refine⟨av,bh,f9 xaa xab λz X W aG=>?_⟩;repeat (rw[yar]at z;refine sz2 z ?_;clear z;intro _ z)
 exact xak):Zp:=h
theorem xbe(h:Zp:=by
 obtain⟨⟨B,bf,bb,bc,C,au⟩,cd,bh,bx,x,aZ,hn,Z,HO⟩:=ab.op R U m1 ad m3 ah;clear ab;unfold MvC;go_enter func130,ntmps130;go_wp2_with fail;rw[aZ.o];clear B bf bb bc C au aZ;refine fo (wL Z xaa ?_);exact no_implicit_lambda% xat):Zp:=h
theorem xbf(h:Zp:=by
 go_wp2_with fail;exact xbg):Zp:=h
theorem xbg(h:Zp:=by
 obtain⟨_,aU,ax,aF,_,_,_⟩:=aG.o.bx;have ai:=bi.o;go_region_with (first|(go_at_call 59;refine yaj (aO.o _ _ _ _ _ _ _ bp.o ad.o _ a9) ?_;rintro e an ⟨aI,cap',rfl,aK,ak⟩;obtain⟨_,bo,ar,aQ,bR,bV,bW⟩:=aK)|(go_at_call 60;refine yaj (gq _ _ _ _ _ _) ?_;rintro e aM ⟨rfl,a9⟩;obtain⟨_,a0,av,aT,_,_,_⟩:=(bp.o.keep a9).bx)|(go_at_call 11;refine yaj (aG.o.keep (eD _)).next ?_;rintro e ch ⟨rfl,(bp:V _),b6⟩;have ad:V _:=HK.o.trans ((eZ (eD _)).trans b6);obtain⟨_,bX,aV,bg,_,_,_⟩:=bp.o.bx;clear b6))
 all_goals
  go_wp2_with fail
  obtain⟨bm,aW,bd⟩:=fd an (w.heap.size+1) _ _ _ bo ar aQ (.slice a1 Y c1) (ia aI (vs.length+1) cap') (.slice a3 aa c3)
  exact yaz (v:=eX a1 Y c1 (some ⟨aI,0,none⟩) (vs.length+1) cap' a3 aa c3) (by simp[results,results62,go_sem,bm,aW,bd]) rfl ak):Zp:=h
theorem xbh(h:Zp:=by
 obtain⟨⟨B,bf,bb,bc,C,au⟩,cd,bh,bx,x,aZ,hn,Z,HO⟩:=ab.op R U m1 ad m3 ah;clear ab;unfold MvC;go_enter func130,ntmps130;go_wp2_with fail;exact yaz (by simp[results,results130,go_sem]) rfl (rX HO.o (((eA 0 0 w _).trans (eA 0 0 _ _)).trans (eA 0 0 _ _)) _)):Zp:=h
theorem xbi(h:Zp:=by
 clear Z;unfold PfK;intros;rename_i wc X;obtain⟨q,aI,cap',k,F,Z⟩:=X;go_wp2_with fail;refine fo (ku Z xaa (show(q.length:Int)-1=((vs.length:Nat)+2) by have:=b.o.2;have:=m.o.2;have:=k.o.2;omega) ?_);unfold PfK;intros;rename_i aM X;obtain⟨a8,aJ,aP,HR⟩:=X;go_wp2_with fail;exact yaz (by simp[results,results129,go_sem,a8,aJ,aP]) rfl (MS.finPR Z.o HR.o (by rw[k.o.1,m.o.1,b.o.1]<;>simp))):Zp:=h
theorem xbj(h:Zp:=by
 unfold MfK;intros;rename_i aM X;obtain⟨a8,aJ,aP,HR⟩:=X;go_wp2_with fail;exact yaz (by simp[results,results130,go_sem,a8,aJ,aP]) rfl (MS.finR Z.o HR.o (by rw[b.o.1]<;>simp))):Zp:=h
theorem xbk(h:Zp:=by
 have aT:=u.o.at_ j xaa;have aN:=u.o.free j;have R1:V (BL (bW.setCell ⟨g,j,none⟩ (.bool true)) g n (i6 af i s ((j+1:Nat):Int))):=BL.congr (BL.set u.o j xaa) (λk _=>ue af i s j k xaa);have aS:=eU (lo:=g) (hi:=g+1) bW ⟨g,j,none⟩ (.bool true) yac;have R2:V _:=Kept.trans C.o aS;have R3:V (AtP (bW.setCell ⟨g,j,none⟩ (.bool true)) P 0 (Spn.mk s.dst s.len)/\P<(bW.setCell ⟨g,j,none⟩ (.bool true)).heap.size):=⟨AtP.keep v.o.1 v.o.2 aS (i4 aq.o),yak v.o.2 aS.size⟩
 have aD:j<n:=xaa;generalize i6 af i s (j:Int) j=z at aT;clear u C v aS;go_wp2;go_roundw;exact⟨j+1,by omega,by omega,by go_num,R1,R3,R2⟩;simp[intOf];omega):Zp:=h
theorem xbl(h:Zp:=by
 have B:=h.keep k;refine(rm _ _ _ _ _ _ _ _ _ _ _ u B.g.own B.g.sz hn).mono ?_;rintro e ak ⟨aI,cap',rfl,own,s⟩;rw[h.g.row]at s;have hb:=s.chg.block _ B.g.lt (by rintro (c|c);exact c;exact h.g.ne c);have e:∀o,_:=λo=>World.cell?_of_block (a:=⟨w.heap.size,o,none⟩) hb;have x:∀o,_:=λo=>World.frozen?_of_block (a:=⟨w.heap.size,o,none⟩) hb;have ag:(vs++[u]).length=vs.length+1:=by simp
 have G:=h.step (vs2:=vs++[u]) (a2':=some ⟨aI,0,none⟩) (cap':=cap') (l:=W.heap.size) (h':=W.heap.size) k (by rw[ag];exact own) (R':=some aI) rfl s ((Kept.refl 0 0 ak).mono λ_ _ c=>by omega) yad (λg _=>by omega);rw[ag]at G;exact⟨_,_,rfl,⟨_,(e 0).trans B.g.c0⟩,⟨_,(e 1).trans B.g.c1⟩,⟨_,(e 2).trans B.g.c2⟩,λo=>by rw[x];exact B.g.free o,G⟩):Zp:=h
theorem xbm(h:Zp:=by
 have HE:V _:=bY;clear bY;refine fo (ww Z xaa (HE.o.2) ?_);unfold MfK;intros;rename_i aM X;obtain⟨a8,aJ,aP,HR⟩:=X;go_wp2_with fail;exact yaz (by simp[results,results130,go_sem,a8,aJ,aP]) rfl (MS.finR Z.o HR.o HE.o.1)):Zp:=h
theorem xbn(h:Zp:=by
 rcases aa with aa|aa<;>exact⟨⟨#[112,117,116,40]⟩++av++⟨#[44,32]⟩++sv++⟨#[44,32]⟩++J++⟨#[41]⟩,ni bs bh,f9 WkS aD λz X W aG=>WkE⟩):Zp:=h
theorem xbo(h:Zp:=by
 intros;rename_i HK;have bi:V (∀aq,Kept 0 0 W aq->_):=λaq k=>MS.call Z.o k (eK 3 Q l f 0) xaa;have a0:=Z.o.g.c0;have av:=Z.o.g.c1;have aT:=Z.o.g.c2;have bb:=Z.o.v.c2;exact xan):Zp:=h
theorem xbp(h:Zp:=by
 go_region_with (first
  |(go_at_call 59;refine yaj (aO.o _ ((eD _).trans b7)) ?_;rintro e an ⟨us,aI,cap',rfl,cH,aK,ak⟩;obtain⟨_,bo,ar,aQ,bR,bV,bW⟩:=aK)
  |(go_at_call 60;refine yaj (gq _ _ _ _ _ _) ?_;rintro e aj ⟨rfl,b7⟩;obtain⟨_,aU,ax,aF,_,_,_⟩:=(HD.o.keep ((eD _).trans b7)).bx))
 all_goals exact b1.o (L2.of HSV.o cH.o ak)):Zp:=h
theorem xbq(h:Zp:=by
 generalize W.alloc (.cells #[ih 2,ih 3,ih 4,ih 5,ih 7] 3)=bb at*;clear bm aW bd B ap av;obtain⟨_,bm,aW,bd,B,ap,av⟩:=HD.o.bx;have bv:0<=(c:Int)/8:=xaa;have r:IntKind.i64.wrap ((c:Int)/8)=(c:Int)/8:=by rw[IntKind.wrap_i64];omega
 have t:((c:Int)/8).tmod 5=(q:Int):=(Int.tmod_eq_emod_of_nonneg bv).trans f;clear ai ay Y ae bk N J bv f;exact xbp):Zp:=h
theorem xbr(h:Zp:=by
 rw[ip Q]at bc;rw[<-bc.o]at R2;go_region
 all_goals
  go_wp2
  go_roundw;exact⟨i+1,_,by omega,by go_num,R2.o.keep (eD _)⟩;simp[intOf];omega):Zp:=h
theorem xbs(h:Zp:=by
 unfold PfC;intros;rename_i HK;have bi:V (∀aq,Kept 0 0 W aq->_):=λaq k=>MS.call Z.o k (eK 4 Q d i 0) xaa;exact xaf):Zp:=h
theorem xbt(h:Zp:=by
 generalize f.vs.length=dv at*;generalize f.ins.length=cf at*;generalize f.outs.length=cp at*;go_upto_region 33 with (go_at_call 126;refine yaj bj.o ?_;rintro e bW ⟨⟨R,aY,U,a9,K,bd,rfl,ax,aF,bv,bp⟩,ag⟩);have b9:V (∀F,Kept 0 0 bW F->_):=λF al=>br.o F R aY K bd U a9 (ag.trans al) (eN ax al) (eN aF al) (eN bv al) bp;have cO:V (∀F,Kept 0 0 bW F->_):=λF al=>(bF.o.keep (ag.trans al)).c1;clear ax aF bv bp br bj cH bG bn p2;have bk:=cO.o _ (eA 0 0 bW (fB R cf aY K g.length bd U cp a9));have an:V _:=b9.o _ (eA 0 0 bW (fB R cf aY K g.length bd U cp a9));go_wp2_with (go_at_call 125;refine yaj an.o ?_;rintro e a7 ⟨⟨x,rfl⟩,bh⟩);go_ret;exact bh.o):Zp:=h
theorem xbu(h:Zp:=by
 go_wp2_with fail;exact xbw):Zp:=h
theorem xbv(h:Zp:=by
 have c1:=b1.o.c k u;have c2:=b1.o.n.t.c2;generalize l:keysL.getD k _=N at c1;go_upto_region 12 with fail;go_quiet (fail)
 have b0:V _:=b1.o.keep (eJ 0 0 _ nq);clear c1 c2 b1;generalize wr.drewN _=cd at b0⊢;have aP:=b0.o.n.t.c0;have bw:=b0.o.n.t.fr 0;have b3:=b0.o.n.t.c2;cases am:(N==x)
 ·exact xfi
 exact xfp):Zp:=h
theorem xbw(h:Zp:=by
 obtain⟨_,aU,ax,aF,_,_,_⟩:=aG.o.bx;go_region_with (first|(go_at_call 59;refine yaj (aO.o _ _ _ _ _ _ _ aG.o HK.o _ ((eD _).trans a9)) ?_;rintro e an ⟨aI,cap',rfl,aK,ak⟩;obtain⟨_,bo,ar,aQ,bR,bV,bW⟩:=aK)|(go_at_call 60;refine yaj (gq _ _ _ _ _ _) ?_;rintro e aM ⟨rfl,a9⟩;obtain⟨_,a0,av,aT,_,_,_⟩:=(aG.o.keep ((eD _).trans a9)).bx))
 all_goals
  go_wp2_with fail
  obtain⟨bm,aW,bd⟩:=fd an (w.heap.size+1) _ _ _ bo ar aQ (.slice a1 Y c1) (ia aI (vs.length+1) cap') (.slice a3 aa c3)
  exact yaz (v:=eX a1 Y c1 (some ⟨aI,0,none⟩) (vs.length+1) cap' a3 aa c3) (by simp[results,results62,go_sem,bm,aW,bd]) rfl ak):Zp:=h
theorem xbx(h:Zp:=by
 go_wp2_with fail;go_meet;exact⟨_,_,_,cc.o.box _ _,ao.o.set xaa rfl⟩):Zp:=h
theorem xby(h:Zp:=by
 obtain rfl:k=15:=xaa;have al:V _:=b1.o.n;rw[show rn x _=mg x from rfl]at al;obtain⟨_,bo,ar,aQ,aj⟩:=al.o.r;obtain⟨_,bm,aW,bd,C⟩:=al.o.t;have bR:=aj 0;have bV:=aj 1;have bW:=aj 2;have H:V _:=al.o.fin;generalize r:mg x=Y at bm H;have K:V _:=r;clear b1 aj C al r;go_wp2_with fail;change bodyPost _ _ _ _ _ (((wr.setCell _ (eL _)).setCell _ _).setCell _ (eL x));generalize ((wr.setCell _ _).setCell _ _).setCell _ _=bP at H⊢;obtain⟨⟨_,bT,f1,f2,_⟩,q⟩:=H.o;refine yaz (v:=.tuple #[.agg #[eL Y,ih i,eL x],ih j]) (by simp[results,results98,go_sem,bT,f1,f2]) rfl ⟨?_,q⟩;rw[bA.o,K.o];rfl):Zp:=h
theorem xbz(h:Zp:=by
 have ao:=Z.o.len1 hj ax;have cd:0<=(j:Int):=xaa;have bh:(j:Int)<vs.length:=xaa;clear ax;exact xae):Zp:=h
theorem xca(h:Zp:=by
 have aI:V (r=.error (c,p)):=by show _=_;rw[HR.o,cM.o _ rfl];rfl
 go_wp2_with (go_at_call 102;refine yaj cf.o ?_;rintro e bx ⟨rfl,bh⟩);go_ret;rw[aI.o];exact TrO.after cQ.o ⟨rfl,bh⟩):Zp:=h
theorem xcb(h:Zp:=by
 obtain⟨⟨B,bf,bb,bc,C,au⟩,cd,bh,bx,x,aZ,hn,Z,HO⟩:=ab.op R U m1 ad m3 ah;clear ab;unfold PtC;go_enter func129,ntmps129;go_wp2_with fail;rw[aZ.o];clear B bf bb bc C au aZ;refine fo (LM Z xaa ?_);exact no_implicit_lambda% xai):Zp:=h
theorem xcc(h:Zp:=by
 obtain⟨⟨B,bf,bb,bc,C,au⟩,cd,bh,bx,x,aZ,hn,Z,HO⟩:=ab.op R U m1 ad m3 ah;clear ab;unfold MvC;go_enter func130,ntmps130;go_wp2_with fail;rw[aZ.o];clear B bf bb bc C au aZ;refine fo (LO Z xaa ?_);clear Z;unfold MfK;intros;rename_i wc X;obtain⟨g,aI,cap',b,ao,Z⟩:=X;go_wp2_with fail;refine fo (LN Z xaa (show(g.length:Int)-1=(vs.length:Nat) by have:=b.o.2;omega) ?_);exact no_implicit_lambda% xbj):Zp:=h
theorem xcd(h:Zp:=by
 obtain⟨⟨B,bf,bb,bc,C,au⟩,cd,bh,bx,x,aZ,hn,Z,HO⟩:=ab.op R U m1 ad m3 ah;clear ab;unfold PtC;go_enter func129,ntmps129;go_wp2_with fail;exact yaz (by simp[results,results129,go_sem]) rfl (wD HO.o (((eA 0 0 w _).trans (eA 0 0 _ _)).trans (eA 0 0 _ _)) _ _)):Zp:=h
theorem xce(h:Zp:=by
 refine yaz (v:=.tuple #[.agg #[(.slice U m ab),(.slice bu k aG),(.slice none 0 0),ih 0],.bool false]) (by simp[results,results16,go_sem,a8,aJ,aP,bw]) rfl ⟨λ_=>⟨_,_,_,_,_,_,_,_,_,_,rfl⟩,λh=>?_,cK.o.new aS (i4 X.o)⟩;rw[aw.o]at h;cases h):Zp:=h
theorem xcf(h:Zp:=by
 go_region_held3 (λO=>O.cell? ⟨Q,0,none⟩=some (ih (gM s).op)/\O.cell? ⟨Q,1,none⟩=some (ih (gM s).len)/\O.cell? ⟨Q,2,none⟩=some (ih (gM s).a)/\O.cell? ⟨Q,3,none⟩=some (ih (gM s).b)/\O.cell? ⟨Q,4,none⟩=some (ih (gM s).c)/\O.cell? ⟨Q,5,none⟩=some (.float .f64 (gM s).k)) (go_keep) (first|(go_at_call 53;refine yaj (F.o 1) ?_;rintro e ci ⟨rfl,b7,ag⟩;obtain⟨_,⟨bX,aV,bg,bq,bB,cF⟩,_,_⟩:=FB.keep t.o ag;simp only[Nat.zero_add]at aV bg bq bB cF))
 all_goals
  go_wp2
  go_ret
  exact⟨jL g.o,b7⟩):Zp:=h
theorem xcg(h:Zp:=by
 have C:=Z.o.v.c4;exact xae):Zp:=h
theorem xch(h:Zp:=by
 go_wp2_with (first|(go_at_call 101;refine yaj (bo.o _ _ bN.o) ?_;rintro e aM ⟨rfl,ba⟩)|fail);exact xdw):Zp:=h
theorem xci(h:Zp:=by
 have ag:=sf Q.o;generalize Lib.bytesWorld wr 5 ⟨br.toArray⟩=bU at q bv u;generalize wr.heap.size=U at q bv;generalize grownCap wr br.length 0 5=az at q;go_upto_region 12 with (go_at_call 87;refine yaj (qM bU _ _ _ _ bv.o xaa) ?_;rintro e bx ⟨b0,c,rfl,C,bI⟩);obtain⟨_,rfl⟩:=qU Q.o C;have bb:V _:=(aS.o.trans u.o).trans (bI.kept 0 0);clear q bv u C bI aU aF Q;exact xdm):Zp:=h
theorem xcj(h:Zp:=by
 have cn:V (r=.error (c,p)):=by show _=_;rw[aI.o];unfold mr;rw[<-bQ.o]
 go_wp2_with (go_at_call 114;refine yaj ad.o ?_;rintro e bx ⟨rfl,bh⟩);go_ret;rw[cn.o];exact⟨rfl,bh.1,bh.2.1,((Mv.of HK.o).trans aF.o).bad bh.2.2⟩):Zp:=h
theorem xck(h:Zp:=by
 go_wp2_with fail;obtain⟨a8,aJ,aP,bw⟩:=iN b0 A _ _ _ _ bo ar aQ aN (.slice U m ab) (.slice bu k aG) (.slice cq j ai) (ih 0);have aS:=fR b0 A (.slice U m ab) (.slice bu k aG) (.slice cq j ai) (ih 0);refine yaz (v:=.tuple #[.agg #[(.slice U m ab),(.slice bu k aG),(.slice cq j ai),ih 0],.bool false]) (by simp[results,results16,go_sem,a8,aJ,aP,bw]) rfl ⟨λ_=>⟨_,_,_,_,_,_,_,_,_,_,rfl⟩,λh=>?_,cK.o.new aS (i4 X.o)⟩;rw[aw.o]at h;cases h):Zp:=h
theorem xcl(h:Zp:=by
 go_roundw;exact⟨trivial,k+1,by omega,by go_num,H⟩;simp[intOf];omega):Zp:=h
theorem xcm(h:Zp:=by
 refine⟨a0,ni bs cd,f9 xaa xab λz X W aG=>?_⟩;repeat (rw[yar]at z;refine sz2 z ?_;clear z;intro _ z)
 exact xak):Zp:=h
theorem xcn(h:Zp:=by
 go_enter func121,ntmps121;go_wp2_with (first|(go_at_call 11;refine yaj bu.o ?_;rintro e aK ⟨rfl,au,ap,aV⟩)|(go_at_call 89;refine yaj (HD.o _) ?_;rintro e ak ⟨rfl,rfl⟩));go_ret;exact⟨rfl,au,ap,aV⟩):Zp:=h
theorem xco(h:Zp:=by
 go_wp2_with fail;go_roundw;exact⟨k+1,aB,Z,by omega,by omega,by go_num,rfl,by rw[H.o],by omega,h,j,aZ,X,aS⟩;simp[intOf];omega):Zp:=h
theorem xcp(h:Zp:=by
 have b5:=af (j*6+0);rw[Nat.add_zero]at ae am b5;exact xau):Zp:=h
theorem xcq(h:Zp:=by
 go_wp2_with fail;go_roundw;exact⟨k+1,by omega,by go_num,H⟩;simp[intOf];omega):Zp:=h
theorem xcr(h:Zp:=by
 clear aT l bu bl;go_wp2_with fail;go_region
 all_goals
  go_wp2
  go_roundw;exact⟨ak,B,j+1,rfl,rfl,by go_num,by omega,t,H,bh,ds.o.keep (eD _),Kept.drew r.o⟩;simp[intOf];omega):Zp:=h
theorem xcs(h:Zp:=by
 clear Z;unfold PfK;intros;rename_i wc X;obtain⟨vs2,aI,cap',m,v,Z⟩:=X;go_wp2_with fail;refine fo (ku Z xaa (show(vs2.length:Int)-1=((vs.length:Nat)+1) by have:=b.o.2;have:=m.o.2;omega) ?_);unfold PfK;intros;rename_i aM X;obtain⟨a8,aJ,aP,HR⟩:=X;go_wp2_with fail;exact yaz (by simp[results,results129,go_sem,a8,aJ,aP]) rfl (MS.finPR Z.o HR.o (by rw[m.o.1,b.o.1]<;>simp))):Zp:=h
theorem xct(h:Zp:=by
 have aI:V (r=.error (c,p)):=by show _=_;rw[HR.o,HE.o _ rfl];rfl
 go_wp2_with (go_at_call 102;refine yaj aw.o ?_;rintro e aM ⟨rfl,bh⟩);go_ret;rw[aI.o];exact TrO.back HK.o ⟨rfl,bh⟩):Zp:=h
theorem xcu(h:Zp:=by
 refine⟨⟨_,_,_,_,a8,⟨bE.bad ⟨bC.chg.os,bC.chg.tape,bC.chg.output,bC.chg.size,λi hi hn=>bC.chg.block i hi (λc=>hn (.inl c))⟩,λb hb=>?_⟩,λb hb c=>?_⟩,eQ bw bC.chg b8⟩
 ·exact xgi
 exact xjy):Zp:=h
theorem xcv(h:Zp:=by
 clear aQ ap bV a2 aL b1;go_wp2_with fail;go_roundw;exact⟨k+1,aT,xs++[K],by omega,by omega,by go_num,by rw[yal,aD.o];rfl,bA,R1,cP,cJ⟩;simp[intOf];omega):Zp:=h
theorem xcw(h:Zp:=by
 clear Z;unfold MfK;intros;rename_i wc X;obtain⟨g,aI,cap',b,ao,Z⟩:=X;go_wp2_with fail;refine fo (EW Z xaa (show(g.length:Int)-1=(vs.length:Nat) by have:=b.o.2;omega) ?_);exact no_implicit_lambda% xbj):Zp:=h
theorem xcx(h:Zp:=by
 have aS:=fy F (w.heap.size+1) (.slice R Y ad) (.slice K vs.length cap) (.slice U aa ah);have hb:=h.hb
 have G:∀{e size n:Nat}{v:Value}{xs:List _},W.ownsRow base e size v n xs->(fk F _ _ _ _).ownsRow w.heap.size e _ v n _:=λaR=>
  gi (fJ (eN aR k) aS (λg az=>i4 ((eF aR az).1))) xaa
 exact⟨⟨G h.i,G h.g.own,G h.o⟩,Kept.new (h.k.trans k) aS xaa⟩):Zp:=h
theorem xcy(h:Zp:=by
 have aL:=(D 0).1;have l:=(Vaa 0).1;rcases uw a0 with⟨bm,bd⟩|⟨bm,bd⟩
 ·exact xbn
 exact xbn):Zp:=h
theorem xcz(h:Zp:=by
 intro i hi;rcases List.mem_append.1 hi with hi|hi
 ·exact yak (J.o i hi) bU.n
 simp at hi;subst hi;exact cd):Zp:=h
theorem xda(h:Zp:=by
 go_wp2;go_round
 case rel=>exact⟨k+1,by omega,by go_num,H⟩
 case measure=>simp[intOf];omega):Zp:=h
theorem xdb(h:Zp:=by
 rw[eM]at h;cases B:eM f st u a with
 |none=>rw[B]at h;cases h
 |some ar=>
  rw[B]at h;rcases ar with⟨c,p⟩|⟨av,x⟩
  ·cases h;exact⟨_,rfl,rfl⟩
  cases h;exact⟨_,rfl,rfl⟩):Zp:=h
theorem xdc(h:Zp:=by
 rw[<-ay]at h
 have R:p+2<=bs.length:=by
  exact xez
 rw[ab p q aA h,<-m.o p aA R];rfl):Zp:=h
theorem xdd(h:Zp:=by
 go_wp2_with (first|(go_at_call 101;refine yaj (bo.o _ _ bZ.o) ?_;rintro e bx ⟨rfl,ba⟩)|fail);go_ret;rw[H.o];exact⟨rfl,ba.c5,ba.c6,(Mv.of bZ.o).bad ba.chg⟩):Zp:=h
theorem xde(h:Zp:=by
 have aL:=(D 0).1;have l:=(Vaa 0).1;rcases uw a0 with⟨bm,bd⟩|⟨bm,bd⟩
 ·exact xbn
 exact xgv):Zp:=h
theorem xdf(h:Zp:=by
 cases s
 ·exact xfs
 exact xfu):Zp:=h
theorem xdg(h:Zp:=by
 clear l b0;exact xcq):Zp:=h
theorem xdh(h:Zp:=by
 clear hb;go_wp2;exact xcl):Zp:=h
theorem xdi(h:Zp:=by
 have B:=E1.1;obtain⟨aT,a5,E2⟩:=Z (1) xaa (bh);have N:=E2.1;rcases uw a0 with⟨bm,bd⟩|⟨bm,bd⟩
 ·exact xjp
 exact xgh):Zp:=h
theorem xdj(h:Zp:=by
 rcases List.mem_append.1 G with c|c
 ·exact f.dg.k u c
 simp only[List.mem_singleton]at c;subst c;exact aL):Zp:=h
theorem xdk(h:Zp:=by
 go_region_with (first
  |(go_at_call 60;refine yaj (gq _ _ _ _ _ _) ?_;rintro e aM ⟨rfl,a9⟩;have f:=(y.o.keep ((eD ak).trans a9)).c1)
  |(go_at_call 105;refine yaj (bQ.o _ (bN.o.trans ((eD ak).trans a9))) ?_;rintro e bx ⟨⟨x,rfl⟩,bh⟩))
 all_goals (go_wp2_with fail;go_ret;rw[H.o];exact bh.o)):Zp:=h
theorem xdl(h:Zp:=by
 go_wp2_with fail;go_quiet (fail)
 go_wp2;go_ret;exact⟨jL g.o,Kept.trans R3.o (eJ 0 0 _ _)⟩):Zp:=h
theorem xdm(h:Zp:=by
 go_wp2_with fail;go_roundw;exact⟨i+1,by omega,by go_num,bb⟩;simp[intOf];omega):Zp:=h
theorem xdn(h:Zp:=by
 go_wp2_with (go_at_call 116;refine yaj b.o ?_;rintro e ak ⟨rfl,ba⟩);exact xes):Zp:=h
theorem xdo(h:Zp:=by
 go_region_with (first
  |(go_at_call 60;refine yaj (gq _ _ _ _ _ _) ?_;rintro e aM ⟨rfl,a9⟩;have f:=(y.o.keep ((eD ak).trans a9)).c1)
  |(go_at_call 105;refine yaj (ai.o _ ((eD ak).trans a9)) ?_;rintro e bx ⟨⟨x,rfl⟩,bh⟩))
 all_goals (go_wp2_with fail;go_ret;exact bh.o)):Zp:=h
theorem xdp(h:Zp:=by
 rcases Nat.lt_or_ge g W.heap.size with c|c
 ·exact c
 rw[Array.getElem?_eq_none c]at a6;cases a6):Zp:=h
theorem xdq(h:Zp:=by
 clear a8 aJ aP bw b3 cf cz ce aU ek aF bv bT f1 f2 f3 aZ cV ep bj aX B h3 bp d6 fM aI;go_wp2_with fail;go_roundw;exact⟨k+1,by omega,by go_num,by rw[fs.o.2],fs.o.1,some ⟨g9,0,none⟩,cap9,af++[st],R1.o,R2.o.1,R2.o.2,R3.o,dp.o,cB.o⟩;simp[intOf];omega):Zp:=h
theorem xdr(h:Zp:=by
 have c:∀o,(fk aK _ _ _ _).cell? _=aK.cell? ⟨_,o,none⟩:=λo=>aS.cell aL (by simp_all);have cD:∀o,(fk aK _ _ _ _).frozen? _=aK.frozen? ⟨_,o,none⟩:=λo=>aS.frozen aL (by simp_all);exact⟨yak aL aS.size,by grind,by grind,by grind,by grind,by grind,by grind⟩):Zp:=h
theorem xds(h:Zp:=by
 rcases zl C with⟨B,_⟩|⟨B,N⟩
 ·exact xiv
 exact xfw):Zp:=h
theorem xdt(h:Zp:=by
 generalize (⟨_⟩:ByteArray)=b at HD b5⊢;exact xcn):Zp:=h
theorem xdu(h:Zp:=by
 refine yaz (v:=.tuple #[.agg #[(.slice none 0 0),(.slice none 0 0),(.slice none 0 0),ih 0],.bool false]) (by simp[results,results16,go_sem,a8,aJ,aP,bw]) rfl ⟨λ_=>⟨_,_,_,_,_,_,_,_,_,_,rfl⟩,λh=>?_,cK.o.new aS (i4 X.o)⟩;rw[aw.o]at h;cases h):Zp:=h
theorem xdv(h:Zp:=by
 have a:r.testBit i=false:=Nat.testBit_lt_two_pow (yak hb (mD xaa));have b:(2 ^ 63+r).testBit i=false:=Nat.testBit_lt_two_pow (yak (show 2 ^ 63+r<2 ^ 64 by omega) (mD xaa));rw[a,b,show decide _=false from yay xaa];rfl):Zp:=h
theorem xdw(h:Zp:=by
 go_ret;rw[H.o];exact⟨rfl,ba.c5,ba.c6,(Mv.of bN.o).bad ba.chg⟩):Zp:=h
theorem xdx(h:Zp:=by
 clear bl;go_enter func67,ntmps67;go_wp2_with fail;generalize g:(w.alloc (fB a1 Y t (some ⟨a2,ck,none⟩) ae c2 a3 aa c3)).alloc (iK 0 len A I C bA)=k at bN aU ax aF bT aX bk ab r l⊢;clear g;go_quiet (fail)
 go_wp2;go_ret;exact⟨rfl,bN.o.trans (eJ 0 0 _ _)⟩):Zp:=h
theorem xdy(h:Zp:=by
 go_wp2_with fail;go_roundw;exact⟨trivial,l+1,by omega,by go_num,by rw[H.o],by rw[H.o]⟩;simp[intOf];omega):Zp:=h
theorem xdz(h:Zp:=by
 go_wp2_with (go_at_call 102;refine yaj aw.o ?_;rintro e ak ⟨rfl,bh⟩);go_ret;rw[HR.o];exact TrO.back HK.o ⟨rfl,bh⟩):Zp:=h
theorem xea(h:Zp:=by
 rw[yau J,List.all_append,h];exact xek):Zp:=h
theorem xeb(h:Zp:=by
 refine⟨N.bad ⟨bn.os,bn.tape,bn.output,bn.size,λi hi hn=>bn.block i hi (λc=>hn (.inr c))⟩,λb hb=>?_⟩;rcases hb with c|c
 ·exact N.new b (.inl c)
 exact xhs):Zp:=h
theorem xec(h:Zp:=by
 go_roundw;exact⟨k+1,by omega,by go_num,R3⟩;simp[intOf];omega):Zp:=h
theorem xed(h:Zp:=by
 obtain⟨aU,ax,_,_,cF,cK⟩:=bk.o F al;have S:=(bN.o.keep al).lt;have dc:=yak aK al.size;exact⟨(az.cell (p:=⟨bP,1,none⟩) S bO).trans ax,(az.cell (p:=⟨j,of,none⟩) dc b9).trans cF,(az.cell (p:=⟨j,of+1,none⟩) dc b9).trans cK⟩):Zp:=h
theorem xee(h:Zp:=by
 go_wp2_with (first|(go_at_call 38;refine yaj (cx.o _) ?_;rintro e ch ⟨rfl,rfl⟩)|fail);clear aJ bX aV bg bq bB cF;go_roundw;exact⟨i-1,j+1,by go_num,i4 fv.o,i4 fv.o,R2⟩;simp[intOf];omega):Zp:=h
theorem xef(h:Zp:=by
 rw[l]at aL;subst aL;rcases bf with c|c
 ·exact aB _ J c
 have:=(eF aR J).2;omega):Zp:=h
theorem xeg(h:Zp:=by
 refine⟨xs,bi,jv ay a5.o,λp q aA h=>?_⟩;exact xdc):Zp:=h
theorem xeh(h:Zp:=by
 clear f ag hn bj e;generalize eY _=cv at bA bd ai;go_enter func120,ntmps120;go_wp2_with fail;refine yaj bA.o ?_;rintro e ak ⟨rfl,aC⟩;have H:V _:=Kept.trans HK.o aC;clear aC bA;go_wp2;go_ret;exact⟨rfl,H.o⟩):Zp:=h
theorem xei(h:Zp:=by
 go_wp2;go_ret;exact⟨jL H.o,R2.o,λh=>by rw[H.o]at h;cases h⟩):Zp:=h
theorem xej(h:Zp:=by
 rcases aw.row with c|⟨r,c,au⟩
 ·exact .inl c.symm
 cases c;exact .inr au):Zp:=h
theorem xek(h:Zp:=by
 rw[yai,yam J]at t;simpa using t):Zp:=h
theorem xel(h:Zp:=by
 clear h;exact xdl):Zp:=h
theorem xem(h:Zp:=by
 go_enter func53,ntmps53;go_wp2;go_quiet ((first|(go_at_call 30;exact Calls.quiet_of_same (iZ _ _))|(go_at_call 52;exact Calls.quiet_of_same (kZ _ _ _))))
 go_wp2;go_ret;exact⟨rfl,(eA _ _ _ _).trans (eJ _ _ _ _)⟩):Zp:=h
theorem xen(h:Zp:=by
 go_wp2_with fail;go_meet;exact⟨_,_,_,cc.o.peak _,ao.o.keepC ((eU (lo:=w.heap.size) (hi:=w.heap.size+1) aM ⟨_,3,none⟩ _ yac).chg1 (S:=λb=>b=w.heap.size) rfl) xaa⟩):Zp:=h
theorem xeo(h:Zp:=by
 clear J;go_wp2;go_ret;exact⟨_,rfl,(mz _ _ _ _).trans bF.o.symm,mR _ _ _ _,B.drw _,cp.trans (eJ _ _ _ _)⟩):Zp:=h
theorem xep(h:Zp:=by
 subst aL;have b:(Value.slice K (vs0++M.1).length cap).ownBlock≠some (w.heap.size+1):=jn h.g.row h.n1
 exact⟨_,_,_,rfl,eH (eH (eH (eN h.g.own k) b) b) b,h.g.row,(h.s.keepQ k).new (fy _ _ _ _ _) xaa⟩):Zp:=h
theorem xeq(h:Zp:=by
 rcases hb with c|c|c|c|c
 ·exact .inl (.inl c)
 ·exact .inr (yao d (eF ar c).1)
 ·exact .inr (yao d (eF aQ c).1)
 ·exact .inr (yao d (eF aN c).1)
 exact .inl (.inr (.inr (.inr (.inr c))))):Zp:=h
theorem xer(h:Zp:=by
 unfold MfK;intros;rename_i aM X;obtain⟨a8,aJ,aP,HR⟩:=X;go_wp2_with fail;exact yaz (by simp[results,results130,go_sem,a8,aJ,aP]) rfl (MS.finR Z.o HR.o (by rw[k.o.1,m.o.1,b.o.1]<;>simp))):Zp:=h
theorem xes(h:Zp:=by
 go_ret;rw[HR.o];exact⟨rfl,ba.c5,ba.c6,(Mv.of HK.o).bad ba.chg⟩):Zp:=h
theorem xet(h:Zp:=by
 have H:V (nj af i n s=false):=by show _=_;unfold nj;rw[J];rfl
 have R2:V _:=(HK.o.mono (lo':=g) (hi':=g+1) λb _ c=>by omega)
 exact xei):Zp:=h
theorem xeu(h:Zp:=by
 go_wp2_with fail;exact xec):Zp:=h
theorem xev(h:Zp:=by
 show _=_;rw[eG _ _ _ _ _ _ (.inl (i4 bU.o)),aX.cell (p:=⟨bS,0,none⟩) (yak bU.o.2 bj.size) (λe=>el.o bS e rfl),bj.cell (p:=⟨bS,0,none⟩) bU.o.2 xaa];exact f7.o):Zp:=h
theorem xew(h:Zp:=by
 have B:∀g,(Value.slice _ _ _).ownBlock=some g->H≠some g:=λg az=>by rw[<-h.g.row];exact aB g az
 refine⟨B,λc=>?_,λg az=>?_⟩
 ·have:=(eF aR c).1;have:=h.hb;omega
 rw[j];exact d g (eF aR az).2 (B g az)):Zp:=h
theorem xex(h:Zp:=by
 go_upto_region 23 with fail;go_region
 all_goals (
  go_wp2_with fail
  refine yaz (v:=.tuple #[vM,ih c,ih p]) (by simp[results,results64,go_sem,bX,aV,aP]) rfl ?_
  rw[bo.o]
  exact⟨rfl,H.o⟩)):Zp:=h
theorem xey(h:Zp:=by
 go_enter func115,ntmps115;go_wp2;go_ret;exact⟨rfl,rfl⟩):Zp:=h
theorem xez(h:Zp:=by
 subst aA;by_cases c:p+2<=bs.length
 ·exact c
 simp only[adv]at h;rw[ip c,kG d.o]at h;cases h):Zp:=h
theorem xfa(h:Zp:=by
 clear h b1;go_enter func36,ntmps36;go_wp2_with fail;refine yaj g.o ?_;rintro e aK ⟨rfl,ap⟩;obtain⟨_,aU,ax,aF⟩:=aZ.keep ap;clear aZ;go_wp2;go_ret;exact⟨rfl,aS.o.trans ap⟩):Zp:=h
theorem xfb(h:Zp:=by
 go_wp2_with fail;refine(iD _ _ _ _ _ _ _ X).mono ?_;rintro e ak ⟨rfl,N,cJ,cc⟩;clear cc;go_wp2;go_roundw;exact⟨j+1,by omega,by go_num,rfl,N,aZ.trans cJ⟩;simp[intOf];omega):Zp:=h
theorem xfc(h:Zp:=by
 have B:=bp.o;rw[yap (by rw[a6.o];decide),bY.o]at B;exact ix B):Zp:=h
theorem xfd(h:Zp:=by
 go_enter func72,ntmps72;go_wp2;go_ret;exact⟨rfl,rfl⟩):Zp:=h
theorem xfe(h:Zp:=by
 refine⟨λc=>?_,λm c e=>?_⟩
 ·unfold stA;rw[aL];simp[c]
 unfold stA;rw[aL];simp[c,e,Ste.cells]):Zp:=h
theorem xff(h:Zp:=by
 go_enter func44,ntmps44;go_wp2;go_ret;exact⟨rfl,aS⟩):Zp:=h
theorem xfg(h:Zp:=by
 go_enter func47,ntmps47;go_wp2;go_ret;exact⟨rfl,aS⟩):Zp:=h
theorem xfh(h:Zp:=by
 rw[List.drop_succ_cons,List.drop_succ_cons,List.drop_zero,show ts++[c,n,q]=(ts++c::[n])++[q] by simp,List.take_append_of_le_length yag,yap yag]):Zp:=h
theorem xfi(h:Zp:=by
 have H:V _:=b0.o.miss u (by rw[l];intro c;rw[c]at am;simp at am);exact xdg):Zp:=h
theorem xfj(h:Zp:=by
 have R1:V (BL bW g n (i6 af i s (s.dst+s.len))):=by
  exact xju
 go_wp2;go_ret;exact⟨jL H.o,C.o,λ_=>R1.o⟩):Zp:=h
theorem xfk(h:Zp:=by
 have:=R2.o;rw[<-b5.o,<-aV.o]at this;rw[List.range_succ,List.map_append];exact this):Zp:=h
theorem xfl(h:Zp:=by
 intro g cap O B N h3 _;have e:bs.length+m=(bs++ys).length:=by rw[yal,ag]
 rw[e]at B⊢;refine h g cap _ O rfl ?_ (fA N) h3;unfold YB;rw[List.map_append];exact B):Zp:=h
theorem xfm(h:Zp:=by
 go_wp2_with fail;go_region
 all_goals
  go_wp2_with fail
  go_meet
  exact H.o.keep (eD _)):Zp:=h
theorem xfn(h:Zp:=by
 clear bL bA ag;go_wp2_with fail;go_quiet (fail)
 go_wp2;go_roundw;exact⟨k+1,by omega,by go_num,H,Kept.trans d.o (eJ 0 0 _ _)⟩;simp[intOf];omega):Zp:=h
theorem xfo(h:Zp:=by
 go_roundw
 case rel=>
  exact xhe
 case measure=>simp[intOf];omega):Zp:=h
theorem xfp(h:Zp:=by
 have H:V _:=b0.o.hit u (by rw[l];simpa using am);exact xdg):Zp:=h
theorem xfq(h:Zp:=by
 intro g cap O B N h3 _;have e:aU.length+1=(aU++[y]).length:=by rw[yal];rfl
 rw[e]at B⊢;refine h g cap _ O rfl ?_ (fA N) h3;rw[List.map_append];exact B):Zp:=h
theorem xfr(h:Zp:=by
 obtain⟨_,rfl⟩:=qU z C;clear q bv u C bI aU ax aF Q z ek;exact xdm):Zp:=h
theorem xfs(h:Zp:=by
 have cN:(b:Int)<9223372036854775808:=aw;have cb:decide (9223372036854775808<=(b:Int))=false:=yay xaa;clear aw cN;go_wp2;go_ret;exact⟨rfl,rfl⟩):Zp:=h
theorem xft(h:Zp:=by
 go_enter func26,ntmps26;go_wp2;go_ret;exact⟨jL H.o,HK.o⟩):Zp:=h
theorem xfu(h:Zp:=by
 have cN:9223372036854775808<=(b:Int):=aw;have cb:decide (9223372036854775808<=(b:Int))=true:=decide_eq_true xaa;clear aw cN;go_wp2;go_ret;exact⟨rfl,rfl⟩):Zp:=h
theorem xfv(h:Zp:=by
 rw[<-bL.o]at R1;go_wp2_with fail;go_roundw;exact⟨k+1,by omega,by go_num,by rw[bQ.o],R1,R2.o.1,R2.o.2⟩;simp[intOf];omega):Zp:=h
theorem xfw(h:Zp:=by
 refine⟨?_,N⟩;rcases B with⟨a1,K⟩|⟨a1,K,a3⟩<;>rcases bj with⟨R,a6⟩|⟨R,a6,U⟩
 ·rw[K,a6]
 ·exact absurd R a1
 ·exact absurd a1 R
 rw[a3,U]):Zp:=h
theorem xfx(h:Zp:=by
 have:=S v.a (by unfold fp;rw[ai];simp);exact⟨v.a.toNat,by omega,by omega⟩):Zp:=h
theorem xfy(h:Zp:=by
 rintro (c|c|c|c|c)
 ·have:=h.lt;omega
 ·have:=(eF h.r1 c).2;omega
 ·have:=(eF h.r2 c).2;omega
 ·have:=(eF h.r3 c).2;omega
 have:=(eF h.r4 c).2;omega):Zp:=h
theorem xfz(h:Zp:=by
 rw[e];go_enter func109,ntmps109;go_wp2;go_ret;exact⟨rfl,rfl⟩):Zp:=h
theorem xga(h:Zp:=by
 clear am;go_wp2_with fail;go_quiet (fail)
 go_wp2;go_ret;exact⟨by rw[R1.o,H.o];rfl,(bN.o.trans (Drawn.kept HD.o 0 0)).trans (eJ 0 0 _ _)⟩):Zp:=h
theorem xgb(h:Zp:=by
 rw[yai,List.getElem?_map,List.getElem?_range h];rfl):Zp:=h
theorem xgc(h:Zp:=by
 go_wp2_with fail;go_quiet ((go_at_call 52;exact Calls.quiet_of_same (b1.o _)))
 go_wp2;go_ret;exact⟨jL g.o,HK.o.trans (eJ 0 0 _ _)⟩):Zp:=h
theorem xgd(h:Zp:=by
 go_enter func53,ntmps53;go_wp2;go_ret;exact⟨rfl,eA _ _ _ _⟩):Zp:=h
theorem xge(h:Zp:=by
 go_enter func54,ntmps54;go_wp2;go_ret;exact⟨rfl,eA _ _ _ _⟩):Zp:=h
theorem xgf(h:Zp:=by
 rcases az with c|c
 ·exact(aZ _ c).2
 have:=f.rs.sz;have:=f.bx.sz;omega):Zp:=h
theorem xgg(h:Zp:=by
 rw[show 0x7ff0000000000000=9218868437227405312 from rfl,e];refine⟨?_,Ei xaa⟩;rw[show f64.read _=_ from sB xaa xaa];rfl):Zp:=h
theorem xgh(h:Zp:=by
 rcases aa with aa|aa<;>exact⟨⟨#[106,118,112,40]⟩++av++⟨#[44,32]⟩++a0++⟨#[44,32]⟩++aT++⟨#[41]⟩,a5,f9 WkS aD λz X W aG=>WkE⟩):Zp:=h
theorem xgi(h:Zp:=by
 rcases hb with c|c
 ·exact xib
 exact bE.new b (.inr c)):Zp:=h
theorem xgj(h:Zp:=by
 rw[yai,yam ag]at h;simp only[Option.getD_some]at h;rw[yau ag];grind):Zp:=h
theorem xgk(h:Zp:=by
 rw[List.all_eq_false];rw[yai,yam J]at t;exact⟨ba[k],List.getElem_mem _,by simpa using t⟩):Zp:=h
theorem xgl(h:Zp:=by
 go_roundw
 case rel=>
  exact xiu
 case measure=>simp[intOf];omega):Zp:=h
theorem xgm(h:Zp:=by
 go_wp2_with (go_at_call 102;refine yaj cc.o ?_;rintro e aM ⟨rfl,bh⟩);go_ret;rw[HR.o];exact TrO.after ce.o ⟨rfl,bh⟩):Zp:=h
theorem xgn(h:Zp:=by
 go_wp2_with (go_at_call 102;refine yaj aw.o ?_;rintro e aM ⟨rfl,bh⟩);go_ret;rw[HR.o];exact TrO.back bN.o ⟨rfl,bh⟩):Zp:=h
theorem xgo(h:Zp:=by
 go_enter func30,ntmps30;go_wp2;go_ret;exact⟨rfl,rfl⟩):Zp:=h
theorem xgp(h:Zp:=by
 go_enter func52,ntmps52;go_wp2;go_ret;exact⟨rfl,rfl⟩):Zp:=h
theorem xgq(h:Zp:=by
 go_enter func75,ntmps75;go_wp2;go_ret;exact⟨rfl,rfl⟩):Zp:=h
theorem xgr(h:Zp:=by
 go_enter func95,ntmps95;go_wp2;go_ret;exact⟨rfl,rfl⟩):Zp:=h
theorem xgs(h:Zp:=by
 have e:b=g:=by simpa[Value.ownBlock] using h.symm
 subst e;exact xgf):Zp:=h
theorem xgt(h:Zp:=by
 rw[ce]at bF;go_wp2;go_roundw;exact⟨q+1,by omega,jL bF.o,by go_num,R1,R2⟩;simp[intOf];omega):Zp:=h
theorem xgu(h:Zp:=by
 rcases hb with c|c|c|c|c
 ·subst c;exact B.lt
 ·exact(eF B.r1 c).2
 ·exact(eF B.r2 c).2
 ·exact(eF B.r3 c).2
 exact(eF B.r4 c).2):Zp:=h
theorem xgv(h:Zp:=by
 rcases aa with aa|aa<;>exact⟨⟨#[103,114,97,100,40]⟩++av++⟨#[44,32]⟩++a0++⟨#[41]⟩,bh,f9 WkS aD λz X W aG=>WkE⟩):Zp:=h
theorem xgw(h:Zp:=by
 clear t l bE;go_wp2_with fail;refine yaj HD.o ?_;rintro e O ⟨rfl,rfl⟩;go_wp2;go_ret2
 exact⟨0,2,rfl,H.o,bF⟩):Zp:=h
theorem xgx(h:Zp:=by
 have:=d.2.2;rw[au]at this;exact yao this xaa):Zp:=h
theorem xgy(h:Zp:=by
 obtain⟨g,c,e,_,az,_,bl⟩:=mV h.g.own hn rfl;injection e with ad be ah;subst ad;exact⟨g,rfl,h.g.row.symm,az,bl.at_⟩):Zp:=h
theorem xgz(h:Zp:=by
 rw[ah]at aK⊢;exact kx [x] xac aK rfl rfl (by simp[bG]) (by simp only[List.map_cons,List.map_nil,u];simp[eV,G])):Zp:=h
theorem xha(h:Zp:=by
 clear bM b9;go_wp2_with fail;go_roundw;exact⟨j+1,by omega,by go_num,b0,H⟩;simp[intOf];omega):Zp:=h
theorem xhb(h:Zp:=by
 intro b hb aL;simp[Value.ownBlock]at hb;subst hb;rcases aB with c|c
 ·exact f.ne g c aL
 have:=(eF f.pv aL).2;omega):Zp:=h
theorem xhc(h:Zp:=by
 intro b hb aL;simp[Value.ownBlock]at aL;subst aL;rcases aB with c|c
 ·exact f.ne _ hb c
 have:=(eF f.pu hb).2;omega):Zp:=h
theorem xhd(h:Zp:=by
 clear q bv u;go_wp2_with fail;go_roundw;exact⟨i+1,by omega,by go_num,aS⟩;simp[intOf];omega):Zp:=h
theorem xhe(h:Zp:=by
 obtain⟨S',u,bH,bJ,cb,cO⟩:=bF.o v aI cap' _ ca ak aY bi.o;exact⟨aC+1,S',u,by omega,by go_num,bH,bJ,cb,cO⟩):Zp:=h
theorem xhf(h:Zp:=by
 go_wp2_with (go_at_call 102;refine yaj Y.o ?_;rintro e ak ⟨rfl,bh⟩);go_ret;rw[HR.o];exact⟨rfl,bh⟩):Zp:=h
theorem xhg(h:Zp:=by
 have l:=aG.o j ai;go_wp2;go_round
 case rel=>exact⟨j+1,by omega,rfl,by go_num⟩
 case measure=>simp[intOf];omega):Zp:=h
theorem xhh(h:Zp:=by
 rw[yai];cases bN:af[k]? with
 |none=>decide
 |some v=>exact f.s.lt v (List.mem_of_getElem? bN)):Zp:=h
theorem xhi(h:Zp:=by
 go_wp2;go_roundw;exact⟨j+1,_,_,by omega,by go_num,rfl,by go_num,H,h⟩;simp[intOf];omega):Zp:=h
theorem xhj(h:Zp:=by
 go_wp2;go_roundw
 case rel=>exact⟨trivial,j,by omega,by go_num,HR⟩
 case measure=>simp[intOf];have:=bD.o;omega):Zp:=h
theorem xhk(h:Zp:=by
 clear hb;go_wp2_with fail;go_roundw;exact⟨k+1,by omega,by go_num,HR⟩;simp[intOf];omega):Zp:=h
theorem xhl(h:Zp:=by
 clear bi ay a5 bh ab;go_wp2_with fail;go_ret;obtain⟨xs,ar,aQ⟩:=R1.o;exact⟨_,xs,rfl,ar,aQ.1,aQ.2,bn.o⟩):Zp:=h
theorem xhm(h:Zp:=by
 refine⟨by rw[yal,R.o.1];rfl,?_⟩;rw[oC,<-bQ.o];refine Is R.o.2 ?_;rw[bO.o];exact cR.o):Zp:=h
theorem xhn(h:Zp:=by
 go_wp2_with (go_at_call 118;refine yaj aw.o ?_;rintro e bx ⟨⟨x,rfl⟩,bh⟩);go_ret;exact bh.o):Zp:=h
theorem xho(h:Zp:=by
 clear aD bL;go_wp2;go_roundw;exact⟨q+1,by omega,by go_num,H,ai⟩;simp[intOf];omega):Zp:=h
theorem xhp(h:Zp:=by
 go_wp2;go_roundw;exact⟨j+1,by omega,by have:=cn.o;go_num,R1⟩;simp[intOf];omega):Zp:=h
theorem xhq(h:Zp:=by
 rw[eG _ _ _ _ _ _ (.inl (Ne.symm h)),eG _ _ _ _ _ _ (.inl (Ne.symm h)),eG _ _ _ _ _ _ (.inl (Ne.symm h))]):Zp:=h
theorem xhr(h:Zp:=by
 unfold vd;rw[yai,yai,List.getElem?_map];cases vs[j]?<;>rfl):Zp:=h
theorem xhs(h:Zp:=by
 rw[l]at c;subst c;rcases bR with e|e
 ·exact N.new g9 (.inr e)
 exact .inr (i4 N.chg.size)):Zp:=h
theorem xht(h:Zp:=by
 go_wp2_with fail;go_roundw;exact⟨m+1,by omega,by go_num,H⟩;simp[intOf];omega):Zp:=h
theorem xhu(h:Zp:=by
 clear bl;exact xda):Zp:=h
theorem xhv(h:Zp:=by
 intro j u G;cases j with
 |zero=>cases G;obtain⟨b,o,m⟩:=al;simpa[Addr.add] using d
 |succ j=>cases G):Zp:=h
theorem xhw(h:Zp:=by
 rintro (c|c|c)
 ·omega
 ·have:=aD.o _ (.inr (.inl c));omega
 have:=aD.o _ (.inr (.inr c));omega):Zp:=h
theorem xhx(h:Zp:=by
 have R2:V _:=Kept.trans HK.o d.o;clear bl d;go_wp2;go_ret;exact⟨jL H.o,R2.o⟩):Zp:=h
theorem xhy(h:Zp:=by
 go_roundw;exact⟨trivial,j+1,by omega,by go_num,H⟩;simp[intOf];omega):Zp:=h
theorem xhz(h:Zp:=by
 go_wp2;go_roundw;exact⟨k+1,by omega,by go_num,R1⟩;simp[intOf];omega):Zp:=h
theorem xia(h:Zp:=by
 obtain⟨⟨bf,bb,bc,C,B,N,h3⟩,bp⟩:=h;exact⟨⟨_,_,_,_,B.keep k,N.keep k,h3⟩,eN bp k⟩):Zp:=h
theorem xib(h:Zp:=by
 rcases bC.new b c with d|d
 ·exact bE.new b (.inl d)
 exact .inr (yao bE.chg.size d)):Zp:=h
theorem xic(h:Zp:=by
 simp[Value.ownBlock]at az;subst az;rcases d6 with h|h
 ·exact el.o _ h
 have:=bU.o;omega):Zp:=h
theorem xid(h:Zp:=by
 rw[yai,yam hi]at h;grind[List.set_getElem_self]):Zp:=h
theorem xie(h:Zp:=by
 rw[Nat.testBit_two_pow_add_gt hi,show decide _=false from yay xaa];simp):Zp:=h
theorem xif(h:Zp:=by
 go_wp2_with fail;refine yaj HD.o ?_;rintro e O ⟨rfl,rfl⟩;go_wp2;grind[intOf]):Zp:=h
theorem xig(h:Zp:=by
 go_roundw;exact⟨k+1,by omega,by go_num,H,R2⟩;simp[intOf];omega):Zp:=h
theorem xih(h:Zp:=by
 have:=((aj.nb i hi).mv an).weak (M':=Mst P bf bb bc C) (λb hb=>.inl hb);rw[R];exact this):Zp:=h
theorem xii(h:Zp:=by
 cases s
 all_goals
  go_enter func94,ntmps94
  go_wp2
  go_ret
  exact⟨rfl,rfl⟩):Zp:=h
theorem xij(h:Zp:=by
 have R2:V _:=Kept.trans HK.o b0.o;go_wp2;go_ret;exact⟨jL H.o,R2.o⟩):Zp:=h
theorem xik(h:Zp:=by
 subst ah;obtain⟨aE,cE,G⟩:=aG.o.form;subst G;go_upto_region 30 with fail;exact WkM):Zp:=h
theorem xil(h:Zp:=by
 rw[eG _ _ _ _ _ _ (.inl b2),eG _ _ _ _ _ _ (.inl b2),eG _ _ _ _ _ _ (.inl b2)];exact ek):Zp:=h
theorem xim(h:Zp:=by
 rintro e ak ⟨aI,cap',rfl,own,s⟩;rw[h.g.row]at s;exact⟨_,_,rfl,h.next k own s⟩):Zp:=h
theorem xin(h:Zp:=by
 go_wp2;go_ret;rw[k.o];exact⟨_,rfl,bv.o,R,HR.o.drw _,aZ.trans (eJ _ _ _ _)⟩):Zp:=h
theorem xio(h:Zp:=by
 clear b9 HO bv bu HE aO;go_wp2_with fail;go_ret;exact⟨by rw[<-bA.o];rfl,r.o⟩):Zp:=h
theorem xip(h:Zp:=by
 simp only[List.append_nil];exact⟨_,_,_,rfl,eN h k,rfl,(StQ.refl _ _ w).keepQ k⟩):Zp:=h
theorem xiq(h:Zp:=by
 split
 ·exact .err xab
 split
 ·exact .err xab
 exact kE _ _ _):Zp:=h
theorem xir(h:Zp:=by
 clear aj B N;exact xey):Zp:=h
theorem xis(h:Zp:=by
 have:=bl.o;rw[yap (jx HL.o)]at this;exact this):Zp:=h
theorem xit(h:Zp:=by
 have:(ao.toList.take (n*1))[k]? =(xs.map (Value.int .i64))[k]?:=by rw[b2]
 grind):Zp:=h
theorem xiu(h:Zp:=by
 refine⟨k+1,by omega,by go_num,?_,?_⟩
 ·rw[bQ.o]
 rw[bQ.o];exact aW.o):Zp:=h
theorem xiv(h:Zp:=by
 exfalso;rcases bj with⟨h3,_⟩|⟨_,h3,_⟩
 ·exact h3 B.1
 have:=B.2;omega):Zp:=h
theorem xiw(h:Zp:=by
 unfold val;rw[Nat.pow_zero,Nat.mul_one,Nat.mul_assoc,Nat.pow_sub_mul_pow 2 h]):Zp:=h
theorem xix(h:Zp:=by
 clear aw d;go_enter func42,ntmps42;go_wp2;go_ret;exact⟨rfl,rfl⟩):Zp:=h
theorem xiy(h:Zp:=by
 have:=S v.b (by unfold fp;rw[ai];simp);exact⟨v.b.toNat,by omega,by omega⟩):Zp:=h
theorem xiz(h:Zp:=by
 show _<=_;rw[kQ vs ae xaa,yap xaa];exact cM):Zp:=h
theorem xja(h:Zp:=by
 show _<=_;have N:=bo.o;rw[aj,yal,kD,List.length_take];omega):Zp:=h
theorem xjb(h:Zp:=by
 refine⟨?_,?_,?_,?_,?_,?_,?_⟩;all_goals first|(go_simp;done)|(simp;done)):Zp:=h
theorem xjc(h:Zp:=by
 rw[e];go_enter func100,ntmps100;go_wp2;go_ret;exact⟨rfl,rfl⟩):Zp:=h
theorem xjd(h:Zp:=by
 refine wp_mono h ?_;intro e ak O am;cases e<;>first|exact am|exact am.elim):Zp:=h
theorem xje(h:Zp:=by
 refine(al.block b xaa xaa).trans ?_;exact f.k0.block b hb hn):Zp:=h
theorem xjf(h:Zp:=by
 go_wp2_with fail;go_meet;exact⟨a1,c1,K,c2,a3,c3,us,jn e ai⟩):Zp:=h
theorem xjg(h:Zp:=by
 refine⟨?_,?_,?_,?_,?_,?_⟩;all_goals first|(go_simp;done)|(simp;done)):Zp:=h
theorem xjh(h:Zp:=by
 unfold iX ke at h;rw[Bool.and_eq_true]at h;exact of_decide_eq_true h.1):Zp:=h
theorem xji(h:Zp:=by
 have B:=f.bz;have bU:=bj.size;have bz:=bv.size;have al:=h.size;omega):Zp:=h
theorem xjj(h:Zp:=by
 go_wp2_with fail;go_meet;exact⟨_,_,r,_,_,_,rfl,rfl,rfl,cT,R2,R3⟩):Zp:=h
theorem xjk(h:Zp:=by
 go_enter func58,ntmps58;go_wp2;go_ret;exact⟨rfl,rfl⟩):Zp:=h
theorem xjl(h:Zp:=by
 go_enter func51,ntmps51;go_wp2;go_ret;exact⟨rfl,rfl⟩):Zp:=h
theorem xjm(h:Zp:=by
 intro i hi c;by_cases e:i=k
 ·grind
 exact h.digit i xaa c):Zp:=h
theorem xjn(h:Zp:=by
 clear am;go_wp2;go_ret;exact⟨jL H.o,Kept.refl _ _ _⟩):Zp:=h
theorem xjo(h:Zp:=by
 clear aA br bl ct;go_wp2;go_ret;exact⟨jL H.o,R2.o⟩):Zp:=h
theorem xjp(h:Zp:=by
 rcases aa with aa|aa<;>exact⟨av,a5,f9 WkS aD λz X W aG=>WkE⟩):Zp:=h
theorem xjq(h:Zp:=by
 rintro e O ⟨rfl,rfl⟩;go_wp2;go_ret;exact⟨rfl,eA _ _ _ _⟩):Zp:=h
theorem xjr(h:Zp:=by
 rw[yau ag,List.mem_append];simp_all):Zp:=h
theorem xjs(h:Zp:=by
 go_wp2_with fail;go_meet;exact⟨_,_,r,_,_,_,rfl,rfl,cT,R2,R3⟩):Zp:=h
theorem xjt(h:Zp:=by
 rcases aa with aa|aa<;>exact⟨e,b,f9 WkS aD λz X W aG=>WkE⟩):Zp:=h
theorem xju(h:Zp:=by
 have:=u.o;rw[show j=D+d by omega,<-HD.o]at this;exact this):Zp:=h
theorem xjv(h:Zp:=by
 rw[List.getElem?_eq_none (by rw[List.length_range];omega)];rfl):Zp:=h
theorem xjw(h:Zp:=by
 have:=e6.o k cJ;exact⟨(fld v k).toNat,by omega,by omega⟩):Zp:=h
theorem xjx(h:Zp:=by
 obtain⟨g,e,B,N,h3⟩:=Y.o aj;exact⟨g,e,B,N.keep a9,h3⟩):Zp:=h
theorem xjy(h:Zp:=by
 rcases bC.new b c with d|d
 ·grind
 have:=(eF bw hb).2;omega):Zp:=h
theorem xjz(h:Zp:=by
 rcases r with⟨c,p⟩|x
 ·exact .err (h c p rfl)
 exact .ok):Zp:=h
theorem qaa(h:Zp:=by
 have d:V _:=Dy.box f X hP bF;have ca:=fD X.ys i;have bZ:=fD X.ys (ni bs i);have R:V (S.length=vs.length):=by show _=_;rw[<-aw,List.length_map]
 have HSV:V _:=aw;have b:V _:=J;clear f X bF aw J;go_enter func84,ntmps84;go_wp2_with fail;generalize (w.alloc _).alloc _=W0 at d⊢;refine yaj d.o.next ?_;rintro e aq ⟨rfl,(a6:V _)⟩;clear d;go_wp2_with fail;refine yaj a6.o.next ?_;rintro e bU ⟨rfl,(HD:V _)⟩;clear a6;have aj:0<vs.length:=i4 R.o
 have u:nv bs (ni bs i)%vs.length<vs.length:=Nat.mod_lt _ aj;have ad:(nv bs _:Int).tmod (vs.length:Int)=(nv bs (ni bs i)%vs.length:Nat):=rfl;have N:(nv bs (ni bs i):Int)%vs.length=(nv bs (ni bs i)%vs.length:Nat):=by rw[Int.natCast_emod]
 have t:V (nv bs (ni bs i)%vs.length=nv bs (ni bs i)%S.length):=by show _=_;rw[R.o]
 generalize nv bs _%vs.length=j at u ad N t;have bc:¬vs=[]:=λe=>by rw[e]at aj;exact Nat.lt_irrefl _ aj
 exact qab):Zp:=h
theorem qac(h:Zp:=by
 obtain⟨t,bF⟩:=GrS.start f X hP;have az:V _:=t;have x:V (Kept P (P+1) w _):=eZ bF;have aO:V (∀(W:World) (ab:Nat) (o m p q r:Int),GrS W I P a n cap ab bs w.heap.size (.slice a1 Y c1) (.slice K vs.length c2) (.slice a3 aa c3) ins vs outs->Kept P (P+1) w W->∀aq,Kept 0 0 W aq->_):=λW ab o m p q r S k aq ap=>S.put k ap (eK o m p q r) (Nat.zero_lt_succ _) hn;have hj:(nv bs (ni bs i):Int)%(vs.length:Int)=((nv bs (ni bs i)%vs.length:Nat):Int):=by rw[Int.natCast_emod]
 have u:nv bs (ni bs i)%vs.length<vs.length:=Nat.mod_lt _ aj;generalize nv bs (ni bs i)%vs.length=j at hj u aD⊢;have G:V ((nv bs (ni bs i):Int).tmod (vs.length:Int)=j):=(Int.tmod_eq_emod_of_nonneg xaa).trans hj;have bc:¬vs=[]:=λe=>by rw[e]at aj;exact Nat.lt_irrefl _ aj
 have ca:=fD X.ys i;have bZ:=fD X.ys (ni bs i);have cy:¬(nv bs i:Int)%16=0:=xaa;have b:V _:=J;have Z:V _:=aD;clear f X t bF J hj aD;go_enter func62,ntmps62;go_wp2_with fail;generalize (w.alloc (.cells #[.slice a1 Y c1,.slice K vs.length c2,.slice a3 aa c3] 73)).alloc fO=W0 at az x⊢;refine yaj az.o.next ?_;rintro e aq ⟨rfl,(bY:V _),ap⟩;have ax:=bY.o.bx.q1;have aA:V _:=x.o.trans ap;clear ap;go_upto_region 11 with fail;go_region_held3 (λO=>O.cell? ⟨w.heap.size,1,none⟩=some (.slice K vs.length c2)) (go_keep) (first|(go_at_call 11;refine yaj (bY.o.keep (eD _)).next ?_;rintro e bU ⟨rfl,h,aC⟩;have aF:=h.bx.q1));have HK:V (Kept P (P+1) w bU):=aA.o.trans ((eZ (eD _)).trans aC);have aG:V _:=h;exact qad):Zp:=h
theorem qae(h:Zp:=by
 have cD:V (∀o,((w.alloc (fB F Y c1 (some ⟨a2,0,none⟩) ae c2 P aa c3)).alloc fO).frozen? ⟨w.heap.size,o,none⟩=false):=λo=>by simp
 have bL:=iU (w.alloc (fB F Y c1 (some ⟨a2,0,none⟩) ae c2 P aa c3));rw[show(w.alloc _).heap.size=w.heap.size+1 by simp]at bL;have HR:V _:=bL;have e8:V _:=yU _ F P _ Y c1 _ c2 aa c3 s x _ (dc.keep cU yaa) cw aw aH co S;have e9:V _:=λW k=>xi W _ _ _ _ c1 _ c2 _ c3 _ _ _ (f.keep (cU.trans k)) cj xaa cK;have e7:V (∀W,Kept 0 0 _ W->_):=λW k=>((dc.keep (cU.trans k) yaa).at_ x aH).c1;have bb:V _:=f.v.len;have ep:V _:=a6;have er:V _:=S;have db:V _:=co;have cV:V _:=af;have b9:V (SzU 2000 _ _):=⟨i4 f.v.len,mI _ (λj hj=>i4 (a6 j (by have:=f.v.len;omega))),c7⟩
 have ca:(0:Int)<=x:=xaa;have bZ:(x:Int)<ae:=xaa;have cN:(0:Int)<=s:=xaa;have cb:(s:Int)<ae:=xaa;have d3:((w.alloc (fB F Y c1 (some ⟨a2,0,none⟩) ae c2 P aa c3)).alloc fO).heap.size=w.heap.size+1+1:=by simp
 clear bL cU f af c7 a6 S co;go_enter func124,ntmps124;go_wp2_with fail;refine yaj e8.o ?_;rintro e aK ⟨A,rfl,bl,fa,ap⟩;rw[d3]at fa;obtain⟨_,bG,bn,p2⟩:=ao.o.keep ap;have et:=e7.o _ ap;generalize fl:(vs.getD x _).len=dg at et;have gr:V _:=fl;clear fl e7 e8;have bM:V (BR _ A _):=bl;have aA:V _:=ap;clear bl ap;go_wp2_with fail;clear et;refine yaj (e9.o _ aA.o) ?_;rintro e ak ⟨R,aX,K,bk,U,ab,rfl,cy,ck,Z,⟨ax,aF,bv⟩,aC⟩;have b3:w.heap.size+1+1<=aK.heap.size:=i4 aA.o.size
 have HL:V _:=LK.start bb.o ao.o cD.o HR.o (aA.o.trans aC) b3 aC.size cy ck Z ax aF bv;have c9:V (BR (fk _ _ (.slice R Y aX) (.slice K ae bk) (.slice U aa ab)) A _):=BR.keep (BR.keep bM.o aC yaa) (fy _ w.heap.size _ _ _) (.inr (.inl xaa));have e3:V (Farb w _ _ _ _ _ _ _ A):=⟨fa,λc=>jj ((eF ck c).1) ((BR.lt bM.o)),λc=>jj ((eF cy c).1) ((BR.lt bM.o)),λc=>jj ((eF Z c).1) ((BR.lt bM.o))⟩
 exact qaf):Zp:=h
theorem qag(h:Zp:=by
 have K:V _:=fI W g an m cap ts ab.tk ab.m5 [43] [45];have bl:V _:=fI W g an m cap ts ab.tk ab.m5 [42] [47];rw[mh aA]at K bl;have c0:=ab.tk.c0 0 xaa;have c1:=ab.tk.c1 0 xaa;have c2:=ab.tk.c2 0 xaa;have bJ:=ab.m5;have bn:=ab.mc;have bF:V _:=ab.ws;have bD:V _:=ab.gd;generalize ts.getD 0 i1=t at*;clear ab aA;obtain⟨aW,ps,br⟩:=t;simp only at aj bL;subst aj;simp only[Nat.zero_mul,Nat.add_zero]at c0 c1 c2;simp only;have ag:=sf bL;have bu:V _:=bL;clear bL;have ai:V (∀F,Kept 0 0 W F->Calls prog 105 #[ge P,(⟨1,1,0,0,0,oh br⟩:Vl).agg,ih ps] F λe z=>(∃x:Int,e=.returned (ih x))/\V (TrO W P I u1 u2 u3 u4 bs (fQ st ⟨1,1,0,0,0,oh br⟩ ps) e z)):=λF al=>yaj (lV (bF.o.keep al) bD.o ⟨1,1,0,0,0,oh br⟩ ⟨Int.le_refl _,by show(1:Int)<=1000;decide⟩ (BI br) ps) (λe z t=>⟨t.ret,TrO.back al t⟩);obtain⟨r,au⟩:∃r,r=fQ st ⟨1,1,0,0,0,oh br⟩ ps:=⟨_,rfl⟩
 rw[<-au]at ai⊢;clear au bF bD;go_enter func102,ntmps102;go_upto_region 3 with (go_at_call 113;refine yaj K.o ?_;rintro e ak ⟨rfl,S⟩;obtain rfl:=S.symm);go_upto_region 15 with (go_at_call 113;refine yaj bl.o ?_;rintro e ak ⟨rfl,S⟩;obtain rfl:=S.symm);go_upto_region 16 with fail;exact qah):Zp:=h
theorem qai(h:Zp:=by
 have be:V _:=pM b4.o bD U
 have aI:V (r=.error (3,K)):=by
  have h:=HR.o;rw[uk U]at h;exact(ix h).symm
 have Q:V _:=jp b4.o.c5 b4.o.c6 b4.o.fr 3 K (Mst P u1 u2 u3 u4) (.inl rfl);clear U HR aT b4
 go_wp2_with (first
  |(go_at_call 103;refine yaj be.o ?_;rintro e ak ⟨aC,rfl,S⟩;obtain rfl:=S.symm;have eT:(0:Int)<=aC:=by omega)
  |(go_at_call 101;refine yaj Q.o ?_;rintro e aM ⟨rfl,ba⟩))
 refine yaz (v:=.tuple #[]) (by simp[results,results88,go_sem]) rfl ?_;rw[aI.o];exact⟨rfl,ba.c5,ba.c6,(Mv.of HK.o).bad ba.chg⟩):Zp:=h
theorem qaj(h:Zp:=by
 go_enter func102,ntmps102;go_upto_region 3 with (go_at_call 113;refine yaj K.o ?_;rintro e ak ⟨rfl,S⟩;obtain rfl:=S.symm);go_upto_region 15 with (go_at_call 113;refine yaj bl.o ?_;rintro e ak ⟨rfl,S⟩;obtain rfl:=S.symm);go_upto_region 16 with fail;exact qak):Zp:=h
theorem qal(h:Zp:=by
 obtain⟨⟨B,bf,bb,bc,C,au⟩,cd,bh,bx,x,aZ,hn,Z,HO⟩:=ab.op R U m1 ad m3 ah;clear ab;unfold PtC;go_enter func129,ntmps129;go_wp2_with fail;rw[aZ.o];clear B bf bb bc C au aZ;exact qam):Zp:=h
theorem qan(h:Zp:=by
 intros;rename_i wc X;obtain⟨g,aI,cap',b,ao,Z⟩:=X;obtain⟨_,_,a0,av,aT,_,_,_,_⟩:=Z.o.g;go_wp2_with fail;refine(MS.lst Z.o xaa (show(g.length:Int)-1=(vs.length:Nat) by have:=b.o.2;omega)).mono ?_;clear Z a0 av aT;rintro e t ⟨rfl,Z⟩;exact qao):Zp:=h
theorem qap(h:Zp:=by
 unfold pH;intros;rename_i ao hP;have b1:V _:=@hP;have HD:V _:=h.D;have HSV:V _:=h.hs;have ag:=h.hl;have J:=h.hc;obtain⟨_,bm,aW,bd,B,ap,av⟩:=HD.o.bx;obtain rfl:=Bool.eq_false_iff.2 λq=>absurd (ao.1 q) xaa;clear hP ao;conv=>arg 2;whnf
 exact qaq):Zp:=h
theorem qar(h:Zp:=by
 obtain⟨bY,hi,cg,b8,cc⟩:=info_parts yo;have hn:=g.n;have bN:V _:=tK g.k ak;have aC:V _:=y8 g.len aL;have ap:=eA 0 0 W (iK v.op v.len v.a v.b v.c v.k);have b4:V _:=h.keep ap;have aH:V (Mv _ W (Mst P u1 u2 u3 u4) _):=Mv.of ap;have c1:=b4.o.c1;have bi:V _:=b4.o.r2;have cD:=b4.o.fr 1;have m:=qf W v;obtain⟨B,bf,bb,bc,C,au⟩:=m;have b9:(W.alloc (iK v.op v.len v.a v.b v.c v.k)).heap.size=W.heap.size+1:=by simp
 have HR:V (u2.ownBlock≠some P/\u2.ownBlock≠some W.heap.size):=⟨h.np.2.1,λe=>i4 ((eF h.r2 e).2)⟩
 have cX:=h.lt;have bX:I<=W.heap.size:=i4 h.sz
 have b1:V (fQ st v p=if kq _=true then .error _ else .ok _):=rfl;generalize fQ _ v p=r at b1⊢;obtain⟨K,j,d9⟩:=ja h.r2;clear h ap g;subst d9;generalize bL:st.vs.length=aZ at*;have bu:V _:=bL;clear bL;go_enter func105,ntmps105;go_wp2_with fail;generalize b3:W.alloc _=aK at c1 bi B bf bb bc C au b9 cD b4 aH⊢;have cp:I<=aK.heap.size:=xaa;have cx:P<aK.heap.size:=xaa;have b:W.heap.size<aK.heap.size:=xaa;clear b9 b3;exact qas):Zp:=h
theorem qat(h:Zp:=by
 obtain⟨⟨B,bf,bb,bc,C,au⟩,cd,bh,bx,x,aZ,hn,Z,HO⟩:=ab.op R U m1 ad m3 ah;clear ab;exact qau):Zp:=h
theorem qav(h:Zp:=by
 obtain⟨t,bF⟩:=GrS.start f X hP;have az:V _:=t;have x:V (Kept P (P+1) w _):=eZ bF;have aO:V (∀(W:World) (ab:Nat) (v:Vl),GrS W I P a n cap ab bs w.heap.size (.slice a1 Y c1) (.slice K vs.length c2) (.slice a3 aa c3) ins vs outs->Kept P (P+1) w W->∀aq,Kept 0 0 W aq->v.k<18446744073709551616->_):=λW ab v S k aq ap aL=>S.put k ap v aL hn;have ca:=fD X.ys i;have bZ:=fD X.ys (ni bs i);have b:V _:=J;generalize ah:vs.length=ae at az x aO hn b⊢;clear ah;clear f X t bF J;go_enter func62,ntmps62;go_wp2_with fail;generalize (w.alloc (.cells #[.slice a1 Y c1,.slice K ae c2,.slice a3 aa c3] 73)).alloc fO=W0 at az x⊢;refine yaj az.o.next ?_;rintro e aq ⟨rfl,(aG:V _),ap⟩;have HK:V _:=x.o.trans ap;clear ap az x;obtain⟨_,aU,ax,aF,_,_,_⟩:=aG.o.bx;exact qaw):Zp:=h
theorem qax(h:Zp:=by
 go_enter func28,ntmps28;go_wp2_with (first|(go_at_call 147;refine(written _ (Spn.mk s.dst s.len)).mono ?_;rintro e aK ⟨rfl,ap⟩)|fail);have bj:=eA 0 0 aK (Spn.mk s.dst s.len).box;have ao:V _:=lH aK (Spn.mk s.dst s.len);have hP:aK.heap.size<(aK.alloc (Spn.mk s.dst s.len).box).heap.size:=by simp
 have HK:V _:=Kept.trans ap bj;have aF:V _:=ap.size;generalize Q:aK.heap.size=P at ao hP aF⊢;generalize aK.alloc (Spn.mk s.dst s.len).box=ak at ao hP HK bj⊢;clear Q bj ap;refine(xL ak (Spn.mk s.dst s.len) (n:Int) cp cw xaa xaa).mono ?_;rintro e aM ⟨rfl,a9⟩;replace HK:V _:=Kept.trans HK.o a9;replace ao:V _:=AtP.keep ao.o hP a9 yaa;replace hP:=yak hP a9.size;clear a9;exact qay):Zp:=h
theorem qaz(h:Zp:=by
 obtain⟨w,aB⟩:=bD.o av a rfl;have d5:¬((a:Int)<0):=xaa;go_upto_region 7 with (go_at_call 102;refine yaj aw.o ?_;rintro e aM ⟨rfl,bf,bb,bc,C,a8,bC⟩);have b7:V _:=ao.o.keepC bC.chg aO.o;obtain⟨b5,cv,be,cr,b4⟩:=a8.lenc aB;have bT:=b7.o.c0;have bn:=a8.c1;rw[be]at bn;have cH:V _:=FtI.lit a8 bC a;have bR:V (fY (λs e=>eM f s u e) st (es.take 1)=some (.ok (av,[a]))):=HO.o av a rfl;have b8:V _:=w;have c6:V (∀i∈[a],i<av.vs.length):=by intro i hi;simp at hi;subst hi;exact aB
 have bL:=w.g.n;clear bD aw HE HO bC a8 be cr w bE a0;generalize eW av a=l at b4;exact qba):Zp:=h
theorem qbb(h:Zp:=by
 have aX:Chg _ _ _:=⟨aw.chg.os,aw.chg.tape,aw.chg.output,aw.chg.size,λb hb hn=>aw.chg.block b hb (by rintro (c|c);exact c;exact hn c)⟩
 have az:(Value.slice K vs.length c2).ownBlock=some aI\/aq.heap.size<=aI:=by
  exact xej
 have J:∀u∈vs++[v],u.k<18446744073709551616:=λu G=>by
  exact xdj
 exact qbc):Zp:=h
theorem qbd(h:Zp:=by
 have d:∀I,I<W.heap.size->H≠some I->R'≠some I:=λI aZ X=>by
  rcases aF.row with e|⟨r,e,au⟩<;>grind
 have bp:∀{b:Option _}{n e:Nat}{xs:List _},W.ownsRow base 3 1 _ n xs->Apart (.slice b n e) _->(∀g,(Value.slice b n e).ownBlock=some g->H≠some g)/\(Value.slice b n e).ownBlock≠some w.heap.size/\Apart (.slice b n e) _:=λaR aB=>by
  exact xew
 obtain⟨ca,ct,ew⟩:=bp h.i h.a1;obtain⟨cy,ck,Z⟩:=bp h.o h.a3;have f:H≠some (w.heap.size+1):=λc=>by have:=(eF h.g.own (h.g.row.trans c)).1;have:=h.hb;omega
 exact qbe):Zp:=h
theorem qbf(h:Zp:=by
 obtain⟨⟨bf,bb,bc,C,B,N,h3⟩,bp⟩:=h;have l:∀b,(ia g9 n9 cap9).ownBlock=some b↔g9=b:=λb=>by simp[Value.ownBlock]
 have aN:∀b,Mst P bf bb bc C b->b<F.heap.size:=λb hb=>by
  exact xgu
 have f:¬Mst P bf bb bc C g9:=λc=>by
  rcases bR with e|e
  ·exact h3 g9 e c
  ·have:=aN g9 c;omega
 have an:Mv (Mst P u1 u2 u3 u4) W (λb=>Mst P bf bb bc C b\/(ia g9 n9 cap9).ownBlock=some b) a7:=by
  exact xeb
 exact qbg):Zp:=h
theorem qbh(h:Zp:=by
 have f7:=b9.o;have G:=eQ bi l (λg az e=>i4 ((eF bi az).1));have ag:V _:=G;have co:V _:=Chg.andThen bn.o l;have r:V (∀g,u5.ownBlock=some g->_):=λg az=>(eF bi az).1;have K:V _:=co.o.size;clear bi G l a5 bn bh;exact qbi):Zp:=h
theorem qbj(h:Zp:=by
 have ai:V (∀F v,Kept 0 0 W F->(1<=v.len/\v.len<=1000)->v.k<18446744073709551616->Calls _ _ _ _ λe z=>(∃x:Int,e=.returned _)/\V (TrO W P I _ _ _ _ _ (fQ _ v _) e _)):=λF v al B N=>yaj (lV (h.keep al) aH v B N aS) (λe z t=>⟨t.ret,t.back al⟩);have bo:V (∀F p,Kept 0 0 W F->_):=λF p al=>jp (h.keep al).c5 (h.keep al).c6 (h.keep al).fr 4 p (Mst P u1 u2 u3 u4) (.inl rfl);exact qbk):Zp:=h
theorem qbl(h:Zp:=by
 have bi:∀z,Kept 0 0 F z->_:=λz aC=>
  O z P I u1 u2 u3 u4 bs st af Q cL u g o ts.length c0 ts ⟨ab.ws.keep (al.trans aC),ab.gd,ab.nm,ab.lc.keep (al.trans aC),ab.ln,ab.lo,c2.keep aC,ab.tg,i4 ab.m5,c3,λt ht=>ab.ti t (by simp[ht]),λt ht=>ab.tn t (by simp[ht])⟩ 2 a aB yad ar ad
 have bR:=gc f st u a ab.gd ab.nm ab.lo bU ar ad;have b:=ab.ws.far2 aO;exact qbm):Zp:=h
theorem qbn(h:Zp:=by
 have d5:¬((a:Int)<0):=xaa;go_upto_region 7 with (go_at_call 102;refine yaj aw.o ?_;rintro e aM ⟨rfl,bf,bb,bc,C,a8,bC⟩);exact qbo):Zp:=h
theorem qbp(h:Zp:=by
 obtain⟨bn,p2,bb,j⟩:=h.np;obtain⟨m,g,q,w,r,z⟩:=h.ap;have l:∀b,(ia g9 n9 cap9).ownBlock=some b↔g9=b:=λb=>by simp[Value.ownBlock]
 exact qbq):Zp:=h
theorem qbr(h:Zp:=by
 have aG:V _:=bn.o.size;have d:q/256 ^ k<=q:=Nat.div_le_self _ _;have bL:V (iA q (k+1)=iA q k++[((q/256 ^ k%256:Nat):Int)]):=rfl;obtain⟨y,bK⟩:∃y,y=q/256 ^ k:=⟨_,rfl⟩
 rw[<-bK]at bQ d bL⊢;clear bK;have ad:((y%256:Nat):Int)=(y:Int)%256:=xaa;rw[ad]at bL;clear ad;exact qbs):Zp:=h
theorem qbt(h:Zp:=by
 go_enter func98,ntmps98;go_upto_region 3 with fail;have bu:V _:=AF w i;change Code.wp _ _ _ _ ((w.alloc (.cells #[eL _,.int _ (0:Nat),eL _] 127)).alloc (.cells #[eL _,ih _,eL _] 127));generalize (w.alloc _).alloc _=W0 at bu⊢;have c0:=(aO.o _ bu.o.k).at_ i hi;exact qbu):Zp:=h
theorem qbv(h:Zp:=by
 obtain⟨aT,f⟩:=x;obtain⟨B,N,n,h3⟩:=ll g _ _ (by simp_all) br;have bT:=h3 _ (lW (k:=0) (by rw[N];simp));have f1:=h3 _ (lW (k:=1) (by rw[N];simp));exact qbw):Zp:=h
theorem qbx(h:Zp:=by
 have ay:V _:=bM;clear bM;go_upto_region 4 with (go_at_call 85;refine yaj bL.o ?_;rintro e ak ⟨v,rfl,aH,aC⟩);obtain⟨aN,b5,rfl,S⟩:=TR.slice aH;exact qby):Zp:=h
theorem qbz(h:Zp:=by
 have a:=oK (q:=1023) xaa ht;have b:=oK (q:=1023) (t:=0) xaa xaa;rw[show 1023*4503599627370496+t=t+4607182418800017408 by omega]at a;rw[show 1023*4503599627370496+0=4607182418800017408 by omega]at b;rw[a,b,aA];simp only[sg,Bool.false_eq_true,if_false];exact qca):Zp:=h
theorem qcb(h:Zp:=by
 obtain⟨w,aB⟩:=bD.o s a rfl;have d5:¬((a:Int)<0):=xaa;go_upto_region 7 with (go_at_call 102;refine yaj aw.o ?_;rintro e ak ⟨rfl,bf,bb,bc,C,v,a7⟩);have y:V _:=ao.o.keepC a7.chg aO.o;obtain⟨b5,cv,be,cr,b4⟩:=v.lenc aB;have ci:=v.c1;subst be;exact qcc):Zp:=h
theorem qcd(h:Zp:=by
 have ao:V _:=jt w (.slice a1 Y c1) (.slice K ae c2) (.slice a3 aa c3) (ih ay);exact qce):Zp:=h
theorem qcf(h:Zp:=by
 have Y:V _:=aw;have cD:V _:=cC;have bD:V _:=bR;have cG:V _:=ap;obtain⟨r,au⟩:∃r,r=GE (ts.getD k i1) ar aQ:=⟨_,rfl⟩
 rw[<-au];have HR:V _:=au;clear au ab aw cC bR ap;go_enter func102,ntmps102;have cy:¬((k:Int)<0):=xaa;exact qcg):Zp:=h
theorem qch(h:Zp:=by
 obtain⟨bn,ar⟩:=G cy;obtain⟨p2,aQ⟩:=G ck;obtain⟨bb,aN⟩:=G Z;have cU:Kept 0 0 w ((w.alloc g).alloc fO):=(eA 0 0 w _).trans (eA 0 0 _ _);have b9:w.heap.size<(fk aK _ _ _ _).heap.size:=yak al.sz aS.size;exact qci):Zp:=h
theorem qcj(h:Zp:=by
 have C:(4:Int)=2\/(4:Int)=3\/(4:Int)=4\/(4:Int)=5\/(4:Int)=7:=xab;have dg:(5:Int)=2\/(5:Int)=3\/(5:Int)=4\/(5:Int)=5\/(5:Int)=7:=xab;have Z:(3:Int)=2\/(3:Int)=3\/(3:Int)=4\/(3:Int)=5\/(3:Int)=7:=xab;exact qck):Zp:=h
theorem qcl(h:Zp:=by
 refine⟨o.1,o.2.imp id ?_⟩;rintro⟨g,cap,ao,ad,R,a6,U⟩;refine⟨g,_,_,ad,R,?_,U⟩;have az:g<W.heap.size:=by grind
 exact qcm):Zp:=h
theorem qcn(h:Zp:=by
 have bF:=eA 0 0 w (fB R Y c1 a6 ae c2 U aa c3);have ao:V _:=ib w (.slice R Y c1) (.slice a6 ae c2) (.slice U aa c3);exact qco):Zp:=h
theorem qcp(h:Zp:=by
 have aD:=ab.tk.len;simp only[yaq,yal,List.length_nil]at aD;have aA:=iW aB;have R:=iW hb;have bc:us≠[]:=λc=>by rw[c]at R;simp at R
 have y:=jB aB yad;have ae:=jB hb yad;have bW:=ab.mc;exact qcq):Zp:=h
theorem qcr(h:Zp:=by
 rw[b8,Nat.mul_one,Int.toNat_natCast]at this;exact this):Zp:=h
theorem qcs(h:Zp:=by
 have aA:=t.p;have c:∀X o,I≠X->(W.setCell ⟨I,j,_⟩ u).cell? ⟨X,o,_⟩=W.cell? _:=λX o a9=>eG _ _ _ _ _ _ (.inl a9);obtain⟨aL,bm,aW,bd,bC,bH,bJ⟩:=h.b;exact qct):Zp:=h
theorem qcu(h:Zp:=by
 have own:∀{u:Value}{xs:List _}{m e s:Nat},F.ownsRow w0.heap.size e s u m xs->(∀b,u.ownBlock=some b->b≠Q)->_:=λo h=>fJ o al λb hb=>i4 (h b hb)
 exact qcv):Zp:=h
theorem qcw(h:Zp:=by
 rw[J,Nat.pow_add,Nat.mul_left_comm,Nat.mul_div_cancel_left _ (by decide:0<2 ^ 52),Nat.mul_mod_right];simp only[bne_self_eq_false,Bool.toNat_false,Nat.add_zero];exact qcx):Zp:=h
theorem qcy(h:Zp:=by
 unfold iS;simp only;go_enter func118,ntmps118;go_upto_region 1 with fail;change Code.wp _ _ _ _ (W.alloc (.cells _ 127));generalize W.alloc _=aq at ao HK⊢;exact qcz):Zp:=h
theorem qda(h:Zp:=by
 obtain⟨a8,aJ,aP,bw,b3,cf⟩:=bf;have af:∀o,_:=λo=>HD.o.dg.r2.frozenAt o;have bz:(vd _ j).k<18446744073709551616:=HD.o.dg.k _ (iF u);have HK:V _:=bz;clear bz;obtain⟨_,aU,ax,aF,_,_,_⟩:=HD.o.bx;exact qdb):Zp:=h
theorem qdc(h:Zp:=by
 clear Z;unfold PfK;intros;rename_i wc X;obtain⟨g,aI,cap',b,ao,Z⟩:=X;obtain⟨_,_,a0,av,aT,_,_,_,_⟩:=Z.o.g;go_wp2_with fail;refine(MS.lst Z.o xaa (show(g.length:Int)-1=(vs.length:Nat) by have:=b.o.2;omega)).mono ?_;clear Z a0 av aT;rintro e t ⟨rfl,Z⟩;go_wp2_with fail;exact qdd):Zp:=h
theorem qde(h:Zp:=by
 intros;rename_i wc X;obtain⟨vs2,aI,cap',m,v,Z⟩:=X;obtain⟨_,_,a0,av,aT,_,_,_,_⟩:=Z.o.g;go_wp2_with fail;refine(MS.lst Z.o xaa (show(vs2.length:Int)-1=((vs.length:Nat)+1) by have:=b.o.2;have:=m.o.2;omega)).mono ?_;clear Z a0 av aT;rintro e t ⟨rfl,Z⟩;exact qdf):Zp:=h
theorem qdg(h:Zp:=by
 subst aD;obtain⟨q,am,f,g⟩:∃q:Nat,q<5/\(c:Int)/8%5=(q:Int)/\c/8%5=q:=⟨c/8%5,by omega,by omega,rfl⟩
 rw[g,show((base+d/8%6:Nat):Int)=(base:Int)+d/8%6 by omega]at b1;have l:(q:Int)<5:=xaa;have cw:(base:Int)<=100:=xaa;have k:(d:Int)<256:=xaa;have R:(c:Int)<256:=xaa;have cz:=Po W 3 am;generalize ([2,3,4,5,7]:List Int).getD q 0=o at b1 cz;have b:=HD.o.keep (eA 0 0 W (.cells #[ih 2,ih 3,ih 4,ih 5,ih 7] 3));clear HD g h;have HD:V _:=b;clear b;have ay:¬(c:Int)%8=0:=xaa;have Y:¬(c:Int)%8=1:=xaa;have ae:¬(c:Int)%8=2:=xaa;have bk:(c:Int)%8<6:=xaa;exact qdh):Zp:=h
theorem qdi(h:Zp:=by
 have aJ:=bf.c1;rw[show(vs.getD j i0).len=m from Z.o]at aJ;rw[G.o];clear h aC bf G bZ ax bY aA az x bB cy Z;first|(have C:(nv bs i:Int)%16=14:=i4 b.o)|(have C:(nv bs i:Int)%16=15:=i4 b.o)
 clear b;obtain⟨_,aU,ax,aF,_,_,_⟩:=aG.o.bx;go_wp2_with fail;refine yaj (aG.o.pick hn _) ?_;rintro e cd ⟨rfl,z,bS⟩;replace HK:V _:=HK.o.trans bS;replace aG:V _:=z;clear z bS aU ax aF aJ;go_wp2_with fail;refine yaj aG.o.next ?_;rintro e bP ⟨rfl,v,a5⟩;replace HK:V _:=HK.o.trans a5;replace aG:V _:=v;clear v a5;have l:=da.o;exact qdj):Zp:=h
theorem qdk(h:Zp:=by
 change Code.wp _ _ _ _ (W.alloc (.cells #[eL [110,97,109,101],ih ps,eL br] 127));have ao:V _:=gY W [110,97,109,101] ps br;have HK:V _:=eA 0 0 W (.cells #[eL [110,97,109,101],ih ps,eL br] 127);generalize W.alloc (.cells #[eL [110,97,109,101],ih ps,eL br] 127)=aq at ao HK⊢;have b9:V _:=HK.o.size;generalize bM:W.heap.size=bP at ao⊢;have bA:V _:=bM;clear bM;obtain⟨bE,R,a6⟩:aq.cell? ⟨bP,0,none⟩=some (eL [110,97,109,101])/\aq.cell? ⟨bP,1,none⟩=some (ih ps)/\aq.cell? ⟨bP,2,none⟩=some (eL br):=⟨ao.o.c0,ao.o.c1,ao.o.c2⟩
 exact qdl):Zp:=h
theorem qdm(h:Zp:=by
 have a6:∀j,j<ae->_:=λj hj=>fV (List.all_eq_true.1 af j (List.mem_range.2 hj));have S:∀j,j<ae->∀k,k<cnt _->_:=λj hj=>ml (List.all_eq_true.1 af j (List.mem_range.2 hj));have co:∀j,j<ae->_:=λj hj=>AM (List.all_eq_true.1 af j (List.mem_range.2 hj));have cU:Kept 0 0 w ((w.alloc (fB F Y c1 (some ⟨a2,0,none⟩) ae c2 P aa c3)).alloc fO):=(eA 0 0 w _).trans (eA 0 0 _ _);have ao:V _:=(ib w (.slice F Y c1) (ia a2 ae c2) (.slice P aa c3)).keep (eA 0 0 _ fO);exact qae):Zp:=h
theorem qdn(h:Zp:=by
 go_upto_region 45 with (go_at_call 114;refine yaj ad.o ?_;rintro e bx ⟨db,dl,rfl,aJ,aP,bw,b3,aR,bX,cg⟩);obtain⟨b5,cv,be,cr,b4⟩:=aR.lenc aj;obtain⟨j,of,ah,b9,aK,cx⟩:=cg.at_ xac;subst be ah;have cA:V _:=aF.o.trans bX;have bN:V _:=ao.o.keepC cA.o.chg aO.o;exact qdo):Zp:=h
theorem qdp(h:Zp:=by
 have aJ:=bf.c1;rw[show(vs.getD j i0).len=m from Z.o]at aJ;rw[G.o];clear h aC bf G bZ ax bY aA az x bB cy Z;exact qdq):Zp:=h
theorem qdr(h:Zp:=by
 generalize W.heap.size=bP at ao aO⊢;obtain⟨bo,bl,dp,dv⟩:=mq _ es st H bY.o 0 (by rw[a6.o];decide) st [] rfl;obtain⟨o,ay,c0,a0,bv⟩:=m.o.call 0 (by rw[a6.o];decide);obtain⟨ds,c8⟩:=bv st bo aq u1 u2 u3 u4 (Gw.refl cp.o) bl (bF.o.keep HK.o) (Mv.of HK.o);rw[<-m.o.cell (Mv.of HK.o).chg 0]at a0;have HE:V _:=dp;have HO:V _:=dv;have bD:V _:=ds;have aw:V _:=c8;have bE:=ao.o.c0;clear bl dp dv ds c8 bv;exact qds):Zp:=h
theorem qdt(h:Zp:=by
 have ao:V _:=gY W b2 K H;have HK:V _:=eA 0 0 W (.cells #[eL b2,ih K,eL H] 127);generalize W.alloc _=aq at ao HK⊢;generalize W.heap.size=bP at ao aP⊢;have b4:V _:=aT.o.ws.keep HK.o;have R:=ao.o.c1;have a6:=ao.o.c2;exact qdu):Zp:=h
theorem qdv(h:Zp:=by
 clear bG bn p2;obtain⟨_,bG,bn,p2⟩:=ao.o.keep (aA.o.trans aC);have bT:=((aA.o.trans aC).frozen ao.o.sz xaa).trans (cD.o 0);have f1:=((aA.o.trans aC).frozen ao.o.sz xaa).trans (cD.o 1);have f2:=((aA.o.trans aC).frozen ao.o.sz xaa).trans (cD.o 2);have an:=BR.cell c9.o s (by rw[oe,bb.o];exact aw);rw[aB]at an;unfold fk at an HL c9;clear cy ck Z ax aF bv aC e9 ao cD HR bM aA d3;exact qdw):Zp:=h
theorem qdx(h:Zp:=by
 have R3:V _:=Chg.new (Chg.andThen co.o bj.chg) aX (λi hi e=>i4 (r.o i e));obtain⟨n9,a2⟩:∃n9,n9=xs.length+1:=⟨_,rfl⟩
 rw[<-a2];have al:V _:=a2;clear aX bj Z bp ag aj I co t a2;go_wp2_with fail;exact qdy):Zp:=h
theorem qdz(h:Zp:=by
 go_wp2_with fail;refine yaj bu.o ?_;rintro e ak ⟨x,rfl,a6,(cu:V _),(m:V _),(bN:V _)⟩;obtain⟨X,a9⟩:∃X:Nat,x=X:=⟨x.toNat,by omega⟩
 have bA:V (X=x.toNat):=by show _=_;omega
 exact qea):Zp:=h
theorem qeb(h:Zp:=by
 obtain⟨⟨B,bf,bb,bc,C,au⟩,cd,bh,bx,x,aZ,hn,Z,HO⟩:=ab.op R U m1 ad m3 ah;clear ab;unfold MvC;go_enter func130,ntmps130;go_wp2_with fail;rw[aZ.o];clear B bf bb bc C au aZ;refine fo (wL Z xaa ?_);clear Z;unfold MfK;exact qan):Zp:=h
theorem qec(h:Zp:=by
 rw[K]at a5⊢;obtain⟨bu,rfl,aO,cg,b0⟩:=a5.at_ xac;obtain⟨o,c0,c1,c2,c3⟩:=b0 0 xac;obtain⟨c9,H,Z,j,bO⟩:=b0 1 xac;exact qed):Zp:=h
theorem qee(h:Zp:=by
 have bp:∀{u:Value}{e s n:Nat}{xs:List _},W.ownsRow I e s u n xs->Apart u _->Apart u _:=λaR aB k J aL=>by
  exact xef
 exact qef):Zp:=h
theorem qeg(h:Zp:=by
 rw[mh aA]at K bl;have c0:=ab.tk.c0 0 xaa;have c1:=ab.tk.c1 0 xaa;have c2:=ab.tk.c2 0 xaa;have bJ:=ab.m5;have bn:=ab.mc;exact qeh):Zp:=h
theorem qei(h:Zp:=by
 have cM:¬((v:Int)<0):=xaa;go_upto_region 6 with (go_at_call 116;refine yaj b.o ?_;rintro e ak ⟨rfl,aC⟩);have bN:V _:=HK.o.trans aC;have ct:V _:=ao.o.keep aC;have a0:=az.o ak bN.o;have aw:V _:=Y.o ⟨v,rfl⟩ ak bN.o;clear b ao HK aC bE av aT G cB az Y;exact qej):Zp:=h
theorem qek(h:Zp:=by
 go_enter func130,ntmps130;go_wp2_with fail;rw[aZ.o];clear B bf bb bc C au aZ;exact qel):Zp:=h
theorem qem(h:Zp:=by
 intro g cap n9 a7 _ aQ ap bV;have R1:V _:=aQ;have R2:V _:=nh (n:=n9) (cap:=cap) bn.o bR.o (eA 0 0 wr _) ap bV;clear aQ ap bV;exact qen):Zp:=h
theorem qeo(h:Zp:=by
 have aS:=fy aK w.heap.size (.slice R Y aX) (.slice K ae bk) (.slice U aa ab);have al:=bR.keep k;obtain⟨a8,aJ,aP⟩:=fd _ _ _ _ _ al.q0 al.q1 al.q2 (.slice R Y aX) (.slice K ae bk) (.slice U aa ab);exact qep):Zp:=h
theorem qeq(h:Zp:=by
 have f1:=f.keep k;refine(rm _ _ _ _ _ _ _ _ _ _ _ v f1.dg.r2 f1.dg.sz xaa).mono ?_;rintro e an ⟨aI,cap',rfl,bi,aw⟩;exact qbb):Zp:=h
theorem qer(h:Zp:=by
 clear HR bD cG cc ce a8 bC ae ag aq aH bj bU;obtain⟨aa,am⟩:∃aa,ts.getD k i1=aa:=⟨_,rfl⟩
 have a5:V _:=am;rw[am]at c1 aX ad aI;clear am;obtain⟨bG,w,bH⟩:=aa;exact qes):Zp:=h
theorem qet(h:Zp:=by
 go_enter func123,ntmps123;go_upto_region 1 with fail;change Code.wp _ _ _ _ (W.alloc (.cells _ 127));generalize W.alloc _=aq at ao HK⊢;generalize W.heap.size=bP at ao⊢;exact qeu):Zp:=h
theorem qev(h:Zp:=by
 have ad:=f.i.len;have be:=f.s.len;have ah:=f.o.len;have cj:Y<=20:=i4 HO.o.li
 have cw:ae<=2000:=i4 HO.o.ls
 have cK:aa<=51:=i4 HO.o.lo
 exact qew):Zp:=h
theorem qex(h:Zp:=by
 have aL:=eA 0 0 w (fB none 0 0 none 0 0 none 0 0);have bL:V _:=pN (f.keep aL) xaa aI;have HL:V ((jk t).length<=4000):=by show _<=_;have:=pX t;have:=f.len;omega
 exact qey):Zp:=h
theorem qez(h:Zp:=by
 go_wp2_with fail;refine yaj bA.o ?_;rintro e ak ⟨rfl,bO⟩;replace aO:V _:=aO.o.keep bO;replace ao:V _:=ao.o.keep bO;replace HK:V _:=Kept.trans HK.o bO;exact qfa):Zp:=h
theorem qfb(h:Zp:=by
 have l:(1:Int)+(nv bs (ni bs (ni bs (ni bs i))):Int)%4=((1+nv bs (ni bs (ni bs (ni bs i)))%4:Nat):Int):=xaa;have af:=fD X.ys (ni bs (ni bs (ni bs i)));exact qfc):Zp:=h
theorem qfd(h:Zp:=by
 obtain⟨a4,cA,ax⟩:=jq b4.o.r4;subst ax;go_upto_region 2 with (go_at_call 103;refine yaj be.o ?_;rintro e ak ⟨i,rfl,bK,S⟩;obtain rfl:=S.symm);exact qfe):Zp:=h
theorem qff(h:Zp:=by
 have bT:=y.o.c0;have aX:=y.o.c1;have bL:=w.g.n;generalize eW s a=l at b4 ai;generalize s.vs.length=aZ at*;clear v a7 aw ao HR bD w bE a0;exact qfg):Zp:=h
theorem qfh(h:Zp:=by
 have Z:V _:=aZ;clear aZ HL;go_upto_region 7 with (go_at_call 86;refine yaj I.o ?_;rintro e aM ⟨rfl,a9⟩);have bZ:V _:=bN.o.trans a9;exact qfi):Zp:=h
theorem qfj(h:Zp:=by
 have h:=(aj.o.keepC (bj.chg (S:=λ_=>False)) (λ_ _ h=>h) (λh=>h)).keepC aX (λg az e=>i4 (r.o g e)) (λe=>i4 (r.o H e));rw[itS,bO.o];exact h):Zp:=h
theorem qfk(h:Zp:=by
 have bW:=ab.mc;have bJ:=ab.m5;have bD:bs.length<=100000:=by rw[ab.ws.nl];have:=ab.gd.m;omega
 have c0:=ab.tk.c0 0 xaa;have ay:=ab.tk.c0 1 xaa;have Y:=ab.tk.c1 1 xaa;have ae:=ab.tk.c2 1 xaa;exact qfl):Zp:=h
theorem qfm(h:Zp:=by
 have dg:V (∀F z,Kept 0 0 bx F->Chg (Mst P aJ (ia b5 G.vs.length cv) bw b3) F z->z.cell? ⟨bP,1,none⟩=some (ih aS)/\z.cell? ⟨j,of,none⟩=some (ih (d:Nat))/\z.cell? ⟨j,of+1,none⟩=some (ih (U:Nat))):=λF z al az=>by
  exact xed
 have bL:=aC.g.n;have d0:=aC.g.lenB aj;have da:V _:=aC.g;have di:V _:=aR;have d1:V _:=bO;exact qfn):Zp:=h
theorem qfo(h:Zp:=by
 refine fo (wK Z xaa ?_);clear Z;unfold PfK;intros;rename_i wc X;obtain⟨vs2,aI,cap',m,v,Z⟩:=X;obtain⟨_,_,a0,av,aT,_,_,_,_⟩:=Z.o.g;go_wp2_with fail;refine(MS.lst Z.o xaa (show(vs2.length:Int)-1=((vs.length:Nat)+1) by have:=b.o.2;have:=m.o.2;omega)).mono ?_;clear Z a0 av aT;rintro e t ⟨rfl,Z⟩;go_wp2_with fail;exact qfp):Zp:=h
theorem qfq(h:Zp:=by
 have aX:=cw.o.c1;clear ar a9 bi HR cy bp v J bY m cp;obtain⟨q,am⟩:∃q,q=jN s xs aS:=⟨_,rfl⟩
 have bQ:V _:=am;rw[<-am]at ad ak;clear am;rw[aD.o]at ad⊢;exact qfr):Zp:=h
theorem qfs(h:Zp:=by
 have aD:=ab.tk.len;simp only[yaq,yal,List.length_nil]at aD;have aA:=iW aB;have y:=jB aB yad;have bW:=ab.mc;have bU:=jf aB (λt ht=>ab.ti t (by simp[ht])) a xac;exact qft):Zp:=h
theorem qfu(h:Zp:=by
 have be:V _:=pL b4.o bD U;have HFn:V _:=U;clear U;go_upto_region 23 with (go_at_call 103;refine yaj be.o ?_;rintro e ak ⟨rfl,S⟩;obtain rfl:=S.symm);clear be;exact qfv):Zp:=h
theorem qfw(h:Zp:=by
 obtain⟨xs,ab⟩:=an.o;have bA:V _:=ab;rw[<-ab]at ai aD;have HD:V _:=ai;clear bI ai ab an;generalize ag:xs.length=l at HD aD;have av:V _:=ag;have cg:=aD.o;have aI:l<=2000:=xaa;have dl:V _:=cg;clear ag;have ak:=ap.o;obtain⟨_,aU,ax,aF,_,_,_⟩:=HD.o.bx;exact qfx):Zp:=h
theorem qfy(h:Zp:=by
 obtain⟨aW,ps,br⟩:=t;simp only at aj;subst aj;have cH:((m:Int)==1)=false:=yax xaa;simp only[Nat.zero_mul,Nat.add_zero]at c0 c1 c2;exact qaj):Zp:=h
theorem qfz(h:Zp:=by
 have da:V (∀(X cC b8:Value) (o:Nat),(((wr.setCell _ X).setCell _ cC).setCell _ b8).drew.cell? _=wr.cell? ⟨_,o,_⟩):=λX cC b8 o=>lN _ _ _ _ X cC b8 gu;have ea:V _:=HL.o.a4;have R1:V _:=HL.o.fin (eD _);exact qga):Zp:=h
theorem qgb(h:Zp:=by
 rw[bE]at z;have j:(some q:Option Nat).isNone=false:=rfl;rw[j]at z;rw[bE]at a5;have bO:V _:=bE;clear bE j;go_wp2_with fail;exact qgc):Zp:=h
theorem qgd(h:Zp:=by
 obtain⟨_,bm,aW,bd,_,_,_⟩:=ae.o.bx;obtain⟨_,bo,ar,aQ,bR,bV,bW⟩:=ae.o.rs;go_wp2_with fail;obtain⟨bG,bn,p2⟩:=fd _ _ _ _ _ bo ar aQ (.slice a1 ins.length c1) (ia g vs.length c2) (ia g9 n9 cap9);exact qge):Zp:=h
theorem qgf(h:Zp:=by
 rw[<-au];have HR:V _:=au;clear au h aH bM X cz;unfold iS;simp only;go_enter func119,ntmps119;go_upto_region 2 with fail;exact qgg):Zp:=h
theorem qgh(h:Zp:=by
 have K:V _:=fI W g an m cap ts ab.tk ab.m5 [43] [45];have bl:V _:=fI W g an m cap ts ab.tk ab.m5 [42] [47];exact qeg):Zp:=h
theorem qgi(h:Zp:=by
 have bE:=ao.o.c0;go_upto_region 3 with (go_at_call 104;refine yaj (cn.o _) ?_;rintro e ak ⟨rfl,aC⟩);have bN:V _:=HK.o.trans aC;have y:V _:=ao.o.keep aC;exact qgj):Zp:=h
theorem qgk(h:Zp:=by
 have HE:V (ins.length=Y/\af.length=ae/\ba.length=aa):=⟨ad,be,ah⟩
 have ar:V (∀k,(af.getD k Ste.zero).k<18446744073709551616):=λk=>by
  exact xhh
 exact qgl):Zp:=h
theorem qgm(h:Zp:=by
 have dc:¬((y:Int)<0):=xaa;go_upto_region 11 with (go_at_call 102;refine yaj cc.o ?_;rintro e aM ⟨rfl,aV,bg,bq,bB,a8,bC⟩);have ae:=ce.o.trans bC;exact qgn):Zp:=h
theorem qgo(h:Zp:=by
 obtain⟨w,aB⟩:=bD.o ⟨v,rfl⟩ s a rfl;have aH:=yak (b8.o v rfl) w.n;exact qbn):Zp:=h
theorem qgp(h:Zp:=by
 rw[itS,bO.o]at h;have am:=bO.o;have bZ:=t.o p q aA am
 have R:p+2<=bs.length:=by
  subst aA;by_cases c:p+2<=bs.length
  ·exact c
  simp only[adv]at am;rw[ip c,kG d.o]at am;cases am
 exact qgq):Zp:=h
theorem qgr(h:Zp:=by
 have aT:V _:=ab;have aP:V _:=ab.ws.far;obtain⟨b2,K,H⟩:=n;simp only[Nat.zero_mul,Nat.add_zero,Nat.one_mul]at c0 ay Y ae;simp only[iz]at h;have HR:V _:=h;exact qgs):Zp:=h
theorem qgt(h:Zp:=by
 clear b4 cx aR bX cg br ad aF b2 b9 aK cr bO aX cw cA aD ak ao bQ aI;go_quiet (fail)
 have ab:V _:=eJ 0 0 bx nq;have bj:V _:=bk.o _ ab.o;exact qgu):Zp:=h
theorem qgv(h:Zp:=by
 have cy:V (H=.ok (s,xs)):=by
  exact xfc
 obtain⟨co,d4,aV,bg,bq,bB,rfl,ar,(aF:V _),a9⟩:=bi.o.xs;have ad:V _:=zw ar v.o.g co xs.length d4 xs a9 (by rw[aD.o];decide) J.o aS;have cw:V _:=ao.o.keepC aF.o.chg aO.o;exact qgw):Zp:=h
theorem qgx(h:Zp:=by
 have bM:=bF.o.lt;have bd:=bF.o.c2;have bi:V _:=X.r4;have bw:V _:=X;have cO:bs.length<=5000:=jn X.nl ce.m
 clear X;subst e4;generalize bL:bs.length=aZ at*;have bu:V _:=bL;clear bL;exact qgy):Zp:=h
theorem qgz(h:Zp:=by
 obtain⟨bU,cd⟩:=cN.o _ _ rfl;have ea:¬((K:Int)<0):=xaa;have bA:V _:=cT.o _ _ rfl;have cP:V _:=v.o.trans bU
 have cJ:V (∀i∈xs++[K],i<aT.vs.length):=by
  exact xcz
 exact qha):Zp:=h
theorem qhb(h:Zp:=by
 have ed:=sN (by rw[hn];decide) (by rw[hn];decide) (by rw[hn];decide);have K:=Av y ai ed
 have G:ts++c::[n]=((k::l::(ts++[c,n,q])).drop 2).take (m-1-2):=by
  exact xfh
 exact qhc):Zp:=h
theorem qhd(h:Zp:=by
 have aO:V _:=h.far;have bF:V _:=h;have cp:V _:=aH;have m:V _:=bM;have bY:V _:=X;have a6:V _:=cz;exact qhe):Zp:=h
theorem qhf(h:Zp:=by
 refine⟨xs,bi,by rw[<-ay,bE];exact a5.o,λp q _ h=>?_⟩;rw[<-ay,bE]at h;cases h):Zp:=h
theorem qhg(h:Zp:=by
 have bI:=YB.lit ak ak.heap.size [71,76] #[.int .u8 71,.int .u8 76] 2 rfl rfl yad xab;have u:V (SvI ak _ _ _):=⟨bI,eA 0 0 ak _⟩
 clear bI;exact qhh):Zp:=h
theorem qhi(h:Zp:=by
 go_enter func88,ntmps88;go_upto_region 20 with fail;go_upto_region 21 with fail;change Code.wp _ _ _ _ (W.alloc (.cells #[eL _,.int _ K,eL _] 127));exact qdt):Zp:=h
theorem qhj(h:Zp:=by
 have bO:¬Mst P aJ (ia b5 G.vs.length cv) bw b3 bP:=λc=>(cA.o.new bP c).elim aO.o (λc=>i4 ao.o.lt);have cB:V _:=(Mv.of (M:=Mst P u1 u2 u3 u4) HK.o).trans cA.o;exact qhk):Zp:=h
theorem qhl(h:Zp:=by
 have ak:V _:=λG Z (aG:jN s xs aS=.ok (G,Z))=>ll v.o.g xs aS J.o aG;exact qfq):Zp:=h
theorem qhm(h:Zp:=by
 obtain⟨Q,aj⟩:∃Q,Q=I++(ba.take m).flatMap nd:=⟨_,rfl⟩
 have az:V (Q.length<=100000):=by
  exact xja
 rw[<-aj]at X;have bQ:V _:=aj;exact qhn):Zp:=h
