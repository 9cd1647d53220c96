import Derived.BigQuiet
import Derived.Deep.AppendLies
import Derived.Deep.AppendSrc
import Derived.Deep.DeepCutAuto
import Derived.Deep.DrawnRows
import Derived.Deep.Draws
import Derived.Deep.LoopGhost
import Derived.Deep.Quiet
import Derived.Deep.QuietTactic
import Derived.Deep.RegionHeld3
import Derived.Deep.RegionLaw
import Derived.Deep.RegionWith
import Derived.Deep.Slices
import Derived.DeepKeys4
import Derived.Laws.BytesArg
import Derived.Laws.Cover3
import Derived.Laws.FloatArith
import Derived.Laws.OwnMore
import Derived.Lib.ConvBytes
import Derived.LoopIn
import Derived.LoopNIn
import Derived.Maps.OwnOps
import Derived.Maps.OwnSet
import Derived.OpenShut
import Derived.OwnWalkIn
import Derived.ProofKit
import Derived.RangeFuncBound
import Derived.RangeFuncCalls
import Derived.RangeFuncLeaves
import Derived.RangeFuncNested
import Derived.Shelf.Abstract
import Derived.Shelf.RegionOpen
import Derived.StillTail
import Derived.TacticsInMore
import Derived.WalkKit
import Derived.WalkLawsBesides
import Derived.WalkSpells
namespace Go.Proofs.Z
variable{Zp:Prop}
def V(p:Prop):Prop:=p
theorem V.o{p}(h:V p):p:=h
theorem hS{p q:Prop}(h:q)(g:q->p:=by intro x;rw[x];rfl):p:=g h
theorem hR{p q:Prop}(h:q)(g:q->p:=by intro x;rw[x];omega):p:=g h
theorem hQ{p q r:Prop}(h:q)(k:r)(g:q->r->p:=by intro x y;rw[<-x];exact y):p:=g h k
theorem hO{p q r:Prop}(h:q)(k:r)(g:q->r->p:=by intro x y;rw[x];exact y):p:=g h k
theorem hN{p q r:Prop}(h:q)(k:r)(g:q->r->p:=by intro _ _;omega):p:=g h k
theorem hM{p q:Prop}(h:q)(g:q->p:=by intro _;omega):p:=g h
theorem hH{α:Type _}{a b:α}(h:some a=some b):a=b:=Option.some.inj h
theorem hG{c:Prop}{d:Decidable c}(h:c){α:Sort _}{t e:α}:ite c t e=t:=if_pos h
theorem hF{c:Prop}{d:Decidable c}(h:¬c){α:Sort _}{t e:α}:ite c t e=e:=if_neg h
theorem hE{a b:Prop}(h:a)(g:b):a/\b:=⟨h,g⟩
open Go.RowKit
theorem yaa{A B}{n:Nat}:A∨B∨n≤n:=.inr (.inr (Nat.le_refl _))
theorem yab{A}{n:Nat}:A∨n≤n:=.inr (Nat.le_refl _)
theorem yac{A n}:(n≤n∧n<n+1)∨A:=.inl ⟨Nat.le_refl _,Nat.lt_succ_self _⟩
theorem yad{n:Nat}:n≤n:=Nat.le_refl _
theorem yae{n}:0≤n:=Nat.zero_le _
theorem yaf{n}:n<n+1:=Nat.lt_succ_self _
theorem yag(h:Zp:=by simp;omega):Zp:=h
theorem yah(h:Zp:=by show(0:Nat)<18446744073709551616;decide):Zp:=h
theorem yai.{u}{α:Type u}{l:List α}{i a}:l.getD i a=l[i]?.getD a:=List.getD_eq_getElem?_getD
theorem yaj{P f args w R R'}(h:Calls P f args w R)(g:∀e w',R e w'→R' e w'):Calls P f args w R':=h.mono g
theorem yak{n m k:Nat}(h:n<m)(g:m≤k):n<k:=Nat.lt_of_lt_of_le h g
theorem yal.{u}{α:Type u}{s t:List α}:(s++t).length=s.length+t.length:=List.length_append
theorem yam.{u}{α:Type u}{l:List α}{i}(h:i<l.length):l[i]?=some l[i]:=List.getElem?_eq_getElem h
theorem yan.{u}{α:Type u}[BEq α][LawfulBEq α]{a b:α}(h:a≠b):(a==b)=false:=beq_eq_false_iff_ne.2 h
theorem yao{n m k:Nat}(h:n≤m)(g:m≤k):n≤k:=Nat.le_trans h g
theorem yap.{u}{α:Type u}{i}{l:List α}(h:l.length≤i):l.take i=l:=List.take_of_length_le h
theorem yaq.{u}{α:Type u}{a}{s:List α}:(a::s).length=s.length+1:=rfl
theorem yar{a b:ByteArray}:(a++b).size=a.size+b.size:=ByteArray.size_append
theorem yas.{u}{α:Type u}{l r:List α}{i}(h:l.length≤i):(l++r)[i]?=r[i-l.length]?:=List.getElem?_append_right h
theorem yat.{u}{α:Type u}{l r:List α}{i}(h:i<l.length):(l++r)[i]?=l[i]?:=List.getElem?_append_left h
theorem yau.{u}{α:Type u}{i}{l:List α}(h):l.take (i+1)=l.take i++[l[i]]:=List.take_succ_eq_append_getElem h
theorem yav(w:World)(c t i):(w.alloc (.cells c t)).cell? ⟨w.heap.size,i,none⟩=c[i]?:=World.cell?_alloc_new w c t i
theorem yaw(w:World)(b e s):w.ownsRow b e s (.slice none 0 0) 0 []:=World.ownsRow_nil w b e s
theorem yax.{u}{α:Type u}[BEq α][LawfulBEq α]{a b:α}(h:a≠b):(a==b)=false:=beq_false_of_ne h
theorem yay{p}[Decidable p](h:¬p):decide p=false:=decide_eq_false h
theorem yaz{P fn R a w v}(h:Sem.run P (results fn a.tmps) w=.ok v w)(g:a.defers=[])(k:R (.returned v) w):bodyPost P fn R .ret a w:=bodyPost_ret h g k
open Go.RowKit
abbrev hB(b:Nat):Value:=.pointer (some ⟨b,0,none⟩)
abbrev hC(b n c:Nat):Value:=.slice (some ⟨b,0,none⟩) n c
abbrev hD(x:Int):Value:=.int .i64 x
theorem xaa(h:Zp:=by omega):Zp:=h
theorem xab(h:Zp:=by decide):Zp:=h
theorem xac(h:Zp:=by simp):Zp:=h
theorem xad(h:Zp:=by
 conv=>arg 2;whnf
 go_region_with (first
  |(go_at_call 38;refine yaj (bc.o _ ((eF W).trans aj)) ?_;rintro e ag ⟨aB,cap',rfl,⟨u0,bm⟩,⟨u1,ay⟩,⟨u2,aW⟩,ae,_,a0⟩;have bv:=ae 0;have bA:=ae 1;have bM:=ae 2;clear ae)
  |(go_at_call 40;refine yaj (gO _ _ _ _ _ _) ?_;rintro e aO ⟨rfl,aj⟩;have a8:=(MS.keep aa.o ((eF W).trans aj)).g.c0;have aV:=(MS.keep aa.o ((eF W).trans aj)).g.c1;have p2:=(MS.keep aa.o ((eF W).trans aj)).g.c2))
 all_goals exact HK _ ⟨_,_,_,⟨rfl,by simp⟩,by simp,a0⟩):Zp:=h
theorem xae(h:Zp:=by
 have aT:=aa.o.g.c0;have ao:=aa.o.g.c1;have aG:=aa.o.g.c2;exact xad):Zp:=h
theorem xaf(h:Zp:=by
 unfold MfC;intros;rename_i HK;have aT:=aa.o.g.c0;have ao:=aa.o.g.c1;have aG:=aa.o.g.c2;obtain⟨_,bf,aP,aY,bI,bB,bE⟩:=aa.o.b;have aK:V (∀W:World,_):=λW=>jf W O Y Z m1 e1 vs.length cap m3 af xaa;rw[bw]at aK;clear bw;conv=>arg 2;whnf
 go_region_with (first
  |(go_at_call 41;refine yaj (aK.o _) ?_;rintro e a7 ⟨rfl,aF⟩;clear bf aP aY bI bB bE;obtain⟨⟨_,_,bd,aL,aJ,_,_,_,_⟩,⟨_,bf,aP,aY,bI,bB,bE⟩,_,_,_,_,_⟩:=MS.keep aa.o ((eF W).trans aF)))
 all_goals
  obtain⟨bb,aM,aQ⟩:=eZ a7 (w.heap.size+1) _ _ _ bf aP aY (.slice O m1 e1) (.slice Y vs.length cap) (.slice Z m3 af)
  exact HK _ ⟨bb,aM,aQ,⟨a7,(eF W).trans aF,rfl⟩⟩):Zp:=h
theorem xag(h:Zp:=by
 have bc:V _:=kE ((aI.o _ bi.o.k).cut (i:=i) c.o.2) (cap-i);have H:=c.o.1;have bC:(0:Int)<=i:=xaa;have aN:(i:Int)<=j:=xaa;have a2:(j:Int)<=cap:=hM c.o.2
 have e1:((j:Int)-i).toNat=j-i:=xaa;have aQ:=bi.o.t.c2;have bY:=bi.o.t.fr 2;have ad:=bc.o;go_upto_region 25 with fail;change Code.wp _ _ _ _ (wr.setCell _ (eN _));have q:V _:=bi.o.text (lh t i j);clear bc ad aQ bY H bC aN a2 e1;generalize wr.setCell _ _=az at q⊢;generalize ak:lh t i j=x at q;have bn:V _:=ak;clear ak;obtain⟨_,bm,ay,aW,ae⟩:=q.o.r;obtain⟨_,bf,aP,aY,r⟩:=q.o.t;have bv:=ae 0;have bA:=ae 1;have bM:=ae 2;have U:V _:=q.o.fin;clear ae r q;go_wp2_with fail;change bodyPost _ _ _ _ _ (((az.setCell _ (eN _)).setCell _ _).setCell _ (eN x));generalize ((az.setCell _ _).setCell _ _).setCell _ _=ci at U⊢;obtain⟨⟨_,bG,f1,f2,_⟩,m⟩:=U.o;refine yaz (v:=.tuple #[.agg #[eN iG,hD i,eN x],hD j]) (by simp[results,results114,go_sem,bG,f1,f2]) rfl ⟨?_,m⟩;rw[aa.o.1,aa.o.2,bn.o];rfl):Zp:=h
theorem xah(h:Zp:=by
 clear aa;unfold PfK;intros;rename_i wc C;obtain⟨c,aB,cap',f,I,aa⟩:=C;go_wp2_with fail;refine fx (kQ aa xaa (show(c.length:Int)-1=(vs.length:Nat) by have:=f.o.2;omega) ?_);unfold PfK;intros;rename_i ab C;obtain⟨bb,aM,aQ,HR⟩:=C;go_wp2_with fail;exact yaz (by simp[results,results164,go_sem,bb,aM,aQ]) rfl (MS.finPR aa.o HR.o (by rw[f.o.1]<;>simp))):Zp:=h
theorem xai(h:Zp:=by
 have l:V _:=eR aj.o ap.o;have K:V _:=P.o.chg ap.o.chg;have ch:=K.o.lt;go_wp2_with (at_builtin;refine fk _ rfl _ _ rfl _ _ _ rfl (World.ownsRow.alloc l.o _) _ _ rfl (EY _ _) (hM aP.o) yag ?_;intro g9 X n9 bg bJ G F _;have U:V (CW w _ _ _ _ _ _ _ _ _ _ _ _ _ _ _ _ _ _ _/\_/\_):=⟨K.o.app l.o F,bJ,G⟩;clear bJ G F);go_roundw;exact⟨i+1,by omega,by go_num,by rw[S.o,bS.o];exact U.o.1,by obtain⟨_,B,J⟩:=U.o;rw[S.o,C.o];rw[B]at J⊢;exact J⟩;simp[intOf];omega):Zp:=h
theorem xaj(h:Zp:=by
 go_wp2_with (first|(go_at_call 80;refine yaj (j.o _) ?_;rintro e ag ⟨rfl,rfl⟩)|(at_builtin;refine gG bv.o ch b7.o rfl _ _ rfl rfl rfl ?_;intro v' bg bp));have U:V _:=bp;clear bp bv;go_wp2;exact xba):Zp:=h
theorem xak(h:Zp:=by
 go_enter func122,ntmps122
 go_wp2_with ((first
  |(go_at_call 123;refine(A.2 _ _ au).mono ?_)
  |(go_at_call 33;refine(nxS au.o).mono ?_)
  |(go_at_call 150;refine(R.2 _ _ au).mono ?_)
  |(go_at_call 71;refine((D _).2 _ _ au).mono ?_));rintro e aO ⟨rfl,aZ⟩;clear au;have au:V _:=aZ;clear aZ)
 go_ret;exact⟨rfl,au.o⟩):Zp:=h
theorem xal(h:Zp:=by
 obtain⟨aN,a2,bk,bq,ap,T,bS⟩:=bx.o.ex;have b0:Mv (Mst P u1 u2 u3 u4) az (Mst P aN a2 bk bq) wr:=⟨T.chg,λb hb=>T.new b (.inl hb)⟩
 obtain⟨c8,cQ,cS,cT⟩:=mO _ es st U bU.o k (hO ax.o aC) s xs bD.o;obtain⟨o,n1,c1,y,cV⟩:=m.o.call k (hO ax.o aC);obtain⟨cl,cR⟩:=cV s c8 wr aN a2 bk bq v.o cQ ap ((Mv.of HK.o).trans b0);rw[<-m.o.cell ((Mv.of HK.o).trans b0).chg k]at y;have cI:V _:=cS;have cP:V _:=cT;have cK:V _:=cl;have cn:V _:=cR;have ay:V _:=T;have ca:V _:=bS;have cN:V _:=(Mv.of (M:=Mst P u1 u2 u3 u4) HK.o).trans b0;clear cQ cS cT cl cR cV ap T bS b0;rcases c8 with⟨c,p⟩|⟨aG,Y⟩
 ·exact xby
 exact xas):Zp:=h
theorem xam(h:Zp:=by
 have ab:=aZ.o;generalize Lib.bytesWorld _ 5 _=W2 at q bO R;generalize wr.heap.size=Z at q bO;generalize grownCap _ _ 0 5=bK at q;go_upto_region 12 with (go_at_call 69;refine yaj (rA _ _ _ _ _ bO.o xaa) ?_;rintro e bj ⟨b5,c,rfl,C,a5⟩);have a9:V _:=(aw.o.trans R.o).trans (a5.kept 0 0);have p:=am.o _ (R.o.trans (a5.kept 0 0));rcases u.o with⟨F,aB⟩|⟨k,an⟩
 ·exact xfi
 exact xao):Zp:=h
theorem xan(h:Zp:=by
 have be:=aa.o.v.c3;exact xad):Zp:=h
theorem xao(h:Zp:=by
 have Q:c=cb/\c≠0:=by
  exact xdn
 have T:(c !=0)=true:=by unfold bne;rw[yax Q.2];rfl
 have N:V _:=bR.o.trans a9.o;obtain⟨cy,bA,ap,fr⟩:=aX.o _ N.o;have bG:=fr 0;have f1:=fr 1;have f2:=fr 2
 have ao:(((bj.drew.setCell ⟨aR,0,none⟩ (.slice none 0 0)).setCell ⟨aR,1,none⟩ (.slice none 0 0)).setCell ⟨aR,2,none⟩ (.slice none 0 0)).cell? ⟨az,i*3+1,none⟩=some (hD X):=by
  exact xia
 obtain⟨bb,aM,aQ⟩:=eZ _ _ _ _ _ cy bA ap (.slice none 0 0) (.slice none 0 0) (.slice none 0 0);have bC:(bj.setCell ⟨_,0,_⟩ _).cell? _=some (.slice none 0 0):=fD _ _ _ _ _ cy;have aN:((bj.setCell ⟨aR,0,_⟩ (.slice none 0 0)).setCell _ _).cell? _=some (.slice none 0 0):=fD _ _ _ _ _ ((eM _ _ _ _ _ _ (.inr xaa)).trans bA);have U:V (Kept 0 0 w (((bj.drew.setCell _ (.slice none 0 0)).setCell _ (.slice none 0 0)).setCell _ (.slice none 0 0))):=Ag ((HK.o.trans N.o).trans (eF _)) (Nat.le_of_eq aT.o) _ _ _;have cC:V _:=r.o k;have s:V _:=Q.1;clear Q an C k u bO R q a5 bd aL aJ fr aX;go_upto_region 13 with fail;go_region
 all_goals (
  go_wp2_with fail
  refine yaz (v:=.tuple #[wg,hD c,hD X]) (by simp[results,results35,go_sem,bC,aN,aQ]) rfl ?_
  rw[<-bp.o,cC.o,<-s.o]
  exact⟨rfl,U.o⟩)):Zp:=h
theorem xap(h:Zp:=by
 obtain⟨⟨bF,a9,ba,be,bi,s⟩,b9,bK,aR,g,aS,hn,aa,HO⟩:=H.op O Z m1 e1 m3 af;clear H;unfold MvC;go_enter func165,ntmps165;go_wp2_with fail;rw[aS.o];clear bF a9 ba be bi s aS;refine fx (FG aa xaa ?_);clear aa;unfold MfK;intros;rename_i wc C;obtain⟨c,aB,cap',f,I,aa⟩:=C;obtain⟨_,_,aT,ao,aG,_,_,_,_⟩:=aa.o.g;go_wp2_with fail;refine(MS.lst aa.o xaa (show(c.length:Int)-1=(vs.length:Nat) by have:=f.o.2;omega)).mono ?_;clear aa aT ao aG;rintro e m ⟨rfl,aa⟩;obtain⟨_,_,aT,ao,aG,_,_,_,_⟩:=aa.o.g;go_wp2_with fail;refine(MS.orX aa.o _ _ xaa).mono ?_;clear aa aT ao aG;rintro e ag ⟨vs2,u,q,J,n,dd,p,aA,rfl,⟨_,bm⟩,⟨_,ay⟩,⟨_,aW⟩,bv,bA,bM,a5,aa⟩;go_wp2_with fail;rw[a5.o];clear a5 bm ay aW bv bA bM;obtain⟨_,_,aT,ao,aG,_,_,_,_⟩:=aa.o.g;go_wp2_with fail;refine(MS.orX aa.o _ _ xaa).mono ?_;clear aa aT ao aG;rintro e ag ⟨t,B,x,z,v,dd,h,k,rfl,⟨_,bm⟩,⟨_,ay⟩,⟨_,aW⟩,bv,bA,bM,a5,aa⟩;go_wp2_with fail;rw[a5.o];clear a5 bm ay aW bv bA bM;refine fx (x7 aa xaa ?_);clear aa;unfold MfK;intros;rename_i wc C;obtain⟨j,aB,cap',l,al,aa⟩:=C;go_wp2_with fail;have ar:=Ik xaa xaa f.o.1 p.o h.o l.o.1;exact no_implicit_lambda% xbm):Zp:=h
theorem xaq(h:Zp:=by
 obtain⟨k,N,rfl,a6⟩:=hrel;by_cases C:k<15
 ·exact xbu
 exact xbw):Zp:=h
theorem xar(h:Zp:=by
 clear ad J aq g t G;go_wp2_with (first|(go_at_call 80;refine yaj (j.o _) ?_;rintro e ag ⟨rfl,rfl⟩)|(go_at_call 48;refine yaj (cC.o _) ?_;rintro e ag ⟨rfl,rfl⟩));refine yaj (HO.o _) ?_;rintro e ag ⟨u,rfl,aH,m,a5⟩;have b7:V (u<18446744073709551616/\fb u=fb (gU op C K P az aB k)):=⟨aH,by rw[m,HE.o]⟩
 replace bv:V _:=Grow.drawn bv.o a5;clear aH m a5;exact xaj):Zp:=h
theorem xas(h:Zp:=by
 obtain⟨aw,cU⟩:=cK.o aG Y rfl;have ej:¬((Y:Int)<0):=xaa;have b9:V _:=cP.o aG Y rfl;have cM:V _:=v.o.trans aw
 have cd:V (∀i∈xs++[Y],i<aG.vs.length):=by
  exact xcw
 go_upto_region 41 with (go_at_call 118;refine yaj cn.o ?_;rintro e bj ⟨rfl,aM,aQ,bY,cg,al,bn⟩);have HFn:V _:=FtI.step ay.o ca.o bx.o.row al bn;have cH:V (az.heap.size<=bj.heap.size):=by show _<=_;have:=ay.o.chg.size;have:=bn.chg.size;omega
 have cO:V _:=cM.o.m;have bN:(bj.alloc (.cells #[hD Y] 3)).cell? ⟨bj.heap.size,0,none⟩=some (hD Y):=by rw[yav];rfl
 have bc:=ez 0 0 bj (.cells #[hD Y] 3);have a8:V _:=HFn.o.keep bc;clear HFn bx ay ca cN cK cn cI cP y al bn v N bD aw;go_wp2_with (first|(at_builtin;refine jI _ rfl _ _ rfl az.heap.size _ xs rfl a8.o.row ⟨bj.heap.size,0,none⟩ Y rfl bN ?c2 ?c3 ?_)|fail)
 case c2=>have:=aq.o;omega
 case c3=>have:=cH.o;simp;omega
 intro g9 cap9 n9 bg bJ bM bI bL;have R1:V _:=FtI.app (st:=aG) (bo.o.keep HK.o) cO.o a8.o bM bI (bL.imp id (λe=>by rw[e];simp));exact xcs):Zp:=h
theorem xat(h:Zp:=by
 clear aa;unfold MfK;intros;rename_i wc C;obtain⟨c,aB,cap',f,I,aa⟩:=C;obtain⟨_,_,aT,ao,aG,_,_,_,_⟩:=aa.o.g;go_wp2_with fail;refine(MS.lst aa.o xaa (show(c.length:Int)-1=(vs.length:Nat) by have:=f.o.2;omega)).mono ?_;clear aa aT ao aG;rintro e m ⟨rfl,aa⟩;have bF:=aa.o.v.c0;have n:(0:Int)<=(vs.length:Nat):=xaa;obtain⟨_,_,aT,ao,aG,_,_,_,_⟩:=aa.o.g;obtain⟨_,bf,aP,aY,bI,bB,bE⟩:=aa.o.b;go_wp2_with fail;obtain⟨bb,aM,aQ⟩:=eZ _ _ _ _ _ bf aP aY (.slice O m1 e1) (hC aB c.length cap') (.slice Z m3 af);exact yaz (by simp[results,results165,go_sem,bb,aM,aQ]) rfl (MS.fin aa.o hL (by rw[f.o.1]<;>simp))):Zp:=h
theorem xau(h:Zp:=by
 go_upto_region 31 with fail;obtain⟨_,bf,aP,aY,_,_,_⟩:=T.o.bx;obtain⟨_,bm,ay,aW,bv,bA,bM⟩:=T.o.rs;go_wp2_with fail;obtain⟨a8,aV,p2⟩:=eZ _ _ _ _ _ bm ay aW (.slice a1 ins.length c1) (hC g vs.length c2) (.slice a3 outs.length c3);exact yaz (v:=eV a1 ins.length c1 (some ⟨g,0,none⟩) vs.length c2 a3 outs.length c3) (by simp[results,results66,go_sem,a8,aV,p2]) rfl al.o):Zp:=h
theorem xav(h:Zp:=by
 refine⟨⟨#[102,105,108,108,40]⟩++ao++⟨#[44,32]⟩++aG++⟨#[41]⟩,bK,gn (by simp only[yar,gi,yaq,List.length_nil];omega) xab λz X W au=>?_⟩;repeat (rw[yar]at z;refine sz2 z ?_;clear z;intro _ z)
 exact xak):Zp:=h
theorem xaw(h:Zp:=by
 obtain⟨⟨bF,a9,ba,be,bi,s⟩,b9,bK,aR,g,aS,hn,aa,HO⟩:=H.op O Z m1 e1 m3 af;clear H;unfold MvC;go_enter func165,ntmps165;go_wp2_with fail;rw[aS.o];clear bF a9 ba be bi s aS;obtain⟨_,_,aT,ao,aG,_,_,_,_⟩:=aa.o.g;refine(MS.orX aa.o _ _ xaa).mono ?_;clear aa aT ao aG;rintro e ag ⟨c,v,m,l,j,dd,f,I,rfl,⟨_,bm⟩,⟨_,ay⟩,⟨_,aW⟩,bv,bA,bM,a5,aa⟩;go_wp2_with fail;rw[a5.o];clear a5 bm ay aW bv bA bM;obtain⟨_,_,aT,ao,aG,_,_,_,_⟩:=aa.o.g;go_wp2_with fail;refine(MS.orX aa.o _ _ xaa).mono ?_;clear aa aT ao aG;rintro e ag ⟨vs2,u,q,J,n,dd,p,aA,rfl,⟨_,bm⟩,⟨_,ay⟩,⟨_,aW⟩,bv,bA,bM,a5,aa⟩;go_wp2_with fail;rw[a5.o];clear a5 bm ay aW bv bA bM;refine fx (x7 aa xaa ?_);clear aa;unfold MfK;intros;rename_i wc C;obtain⟨t,aB,cap',h,k,aa⟩:=C;go_wp2_with fail;have ar:=Ij xaa xaa f.o p.o h.o.1;exact no_implicit_lambda% xbm):Zp:=h
theorem xax(h:Zp:=by
 intros;rename_i HK;have bc:V (∀az,Kept 0 0 W az->_):=λaz k=>MS.call aa.o k (eL 5 G aH r 0) xaa;have aT:=aa.o.g.c0;have ao:=aa.o.g.c1;have aG:=aa.o.g.c2;have be:=aa.o.v.c3;have aK:V (∀W:World,_):=λW=>jf W O Y Z m1 e1 vs.length cap m3 af xaa;rw[bw]at aK;clear bw;conv=>arg 2;whnf
 go_region_with (first
  |(go_at_call 38;refine yaj (bc.o _ (((eF W).trans l).trans aj)) ?_;rintro e ag ⟨aB,cap',rfl,⟨u0,bm⟩,⟨u1,ay⟩,⟨u2,aW⟩,ae,_,a0⟩;have bv:=ae 0;have bA:=ae 1;have bM:=ae 2;clear ae)
  |(go_at_call 41;refine yaj (aK.o _) ?_;rintro e m ⟨rfl,l⟩;have aJ:=(MS.keep aa.o ((eF W).trans l)).g.c0;have b1:=(MS.keep aa.o ((eF W).trans l)).g.c1;have ce:=(MS.keep aa.o ((eF W).trans l)).g.c2;have bk:=(MS.keep aa.o ((eF W).trans l)).v.c3)
  |(go_at_call 40;refine yaj (gO _ _ _ _ _ _) ?_;rintro e aO ⟨rfl,aj⟩;have a8:=(MS.keep aa.o (((eF W).trans l).trans aj)).g.c0;have aV:=(MS.keep aa.o (((eF W).trans l).trans aj)).g.c1;have p2:=(MS.keep aa.o (((eF W).trans l).trans aj)).g.c2))
 all_goals exact HK _ ⟨_,_,_,⟨rfl,by simp⟩,by simp,a0⟩):Zp:=h
theorem xay(h:Zp:=by
 go_upto_region 24 with fail;clear c1;exact xag):Zp:=h
theorem xaz(h:Zp:=by
 generalize W.heap.size=aR at aA⊢;have bH:=aA.o.c0;clear c0 c1 c2 z ad;go_upto_region 22 with fail;have ax:=aA.o.c2;have I:=Lib.run_convert_string_bytes (P:=prog) az 9 22 5 ⟨bF.toArray⟩ underlying9 underlying22 underlying5;have bO:V _:=qZ az 5 bF;have bD:V _:=m8 az 5 ⟨bF.toArray⟩;have ci:(⟨bF.toArray⟩:ByteArray).size=bF.length:=rfl;rw[ci]at I;have q:(convert 9 22 (eN bF)).run prog az=_:=I;clear I ci;generalize Lib.bytesWorld az 5 ⟨bF.toArray⟩=W2 at q bO bD;generalize az.heap.size=Z at q bO;generalize grownCap az bF.length 0 5=bK at q;go_upto_region 23 with (go_at_call 69;refine yaj (rA W2 _ _ _ _ bO.o xaa) ?_;rintro e bj ⟨f,c,rfl,C,a5⟩);obtain⟨rfl,rfl⟩:=rR bu.o C;have b0:V _:=bD.o.trans (a5.kept 0 0);have O:=(aA.o.keep b0.o).c1;have cf:V _:=bC.o bj (HK.o.trans b0.o);clear bC bO bD q a5 C bH ax aA b0 HK bu;generalize oQ bF=y at cf;go_wp2_with (go_at_call 121;refine yaj cf.o ?_;rintro e br ⟨⟨x,rfl⟩,bh⟩);go_ret;exact bh.o):Zp:=h
theorem xba(h:Zp:=by
 go_roundw;exact⟨k+1,by omega,by go_num,U⟩;simp[intOf];omega):Zp:=h
theorem xbb(h:Zp:=by
 rintro e ag ⟨zs,rfl,(aa:V _)⟩;go_wp2;go_ret;exact Made.kres ⟨zs,rfl,aa.o⟩ bf.o λk _=>by simp[gU]):Zp:=h
theorem xbc(h:Zp:=by
 have bc:V _:=kE ((aI.o _ C.o.k).cut (i:=i) c.o.2) (cap-i);have H:=c.o.1;have bC:(0:Int)<=i:=xaa;have aN:(i:Int)<=k:=xaa;have a2:(k:Int)<=cap:=hM c.o.2
 have e1:((k:Int)-i).toNat=k-i:=xaa;have aQ:=C.o.t.c2;have bY:=C.o.t.fr 2;have ad:=bc.o;go_upto_region 25 with fail;change Code.wp _ _ _ _ (wr.setCell _ (eN _));have q:V _:=C.o.text (lh t i k);clear bc ad aQ bY H bC aN a2 e1;generalize wr.setCell _ _=az at q⊢;generalize ak:lh t i k=x at q;have bn:V _:=ak;clear ak;obtain⟨_,bm,ay,aW,ae⟩:=q.o.r;obtain⟨_,bf,aP,aY,r⟩:=q.o.t;have bv:=ae 0;have bA:=ae 1;have bM:=ae 2;have U:V _:=q.o.fin;clear ae r q;go_wp2_with fail;change bodyPost _ _ _ _ _ (((az.setCell _ (eN _)).setCell _ _).setCell _ (eN x));generalize ((az.setCell _ _).setCell _ _).setCell _ _=ci at U⊢;obtain⟨⟨_,bG,f1,f2,_⟩,m⟩:=U.o;refine yaz (v:=.tuple #[.agg #[eN li,hD i,eN x],hD k]) (by simp[results,results114,go_sem,bG,f1,f2]) rfl ⟨?_,m⟩;rw[aa.o.1,aa.o.2,bn.o];rfl):Zp:=h
theorem xbd(h:Zp:=by
 go_region_law (fail)
 all_goals
  generalize (W2.setCell ⟨g,_,_⟩ _).drew=bj at T al⊢
  obtain⟨_,bf,aP,aY,_,_,_⟩:=T.o.bx
  obtain⟨_,bm,ay,aW,bv,bA,bM⟩:=T.o.rs
  go_wp2_with fail
  obtain⟨a8,aV,p2⟩:=eZ _ _ _ _ _ bm ay aW (.slice a1 ins.length c1) (hC g vs.length c2) (.slice a3 outs.length c3)
  exact yaz (v:=eV a1 ins.length c1 (some ⟨g,0,none⟩) vs.length c2 a3 outs.length c3) (by simp[results,results66,go_sem,a8,aV,p2]) rfl al.o):Zp:=h
theorem xbe(h:Zp:=by
 refine⟨ao,bK,gn xaa xab λz X W au=>?_⟩;repeat (rw[yar]at z;refine sz2 z ?_;clear z;intro _ z)
 exact xak):Zp:=h
theorem xbf(h:Zp:=by
 obtain⟨⟨bF,a9,ba,be,bi,s⟩,b9,bK,aR,g,aS,hn,aa,HO⟩:=H.op O Z m1 e1 m3 af;clear H;unfold MvC;go_enter func165,ntmps165;go_wp2_with fail;rw[aS.o];clear bF a9 ba be bi s aS;refine fx (x6 aa xaa ?_);exact no_implicit_lambda% xat):Zp:=h
theorem xbg(h:Zp:=by
 go_wp2_with fail;exact xbj):Zp:=h
theorem xbh(h:Zp:=by
 clear aa;unfold PfK;intros;rename_i wc C;obtain⟨t,aB,cap',h,k,aa⟩:=C;go_wp2_with fail;refine fx (kQ aa xaa (show(t.length:Int)-1=((vs.length:Nat)+2) by have:=f.o.2;have:=p.o.2;have:=h.o.2;omega) ?_);unfold PfK;intros;rename_i ab C;obtain⟨bb,aM,aQ,HR⟩:=C;go_wp2_with fail;exact yaz (by simp[results,results164,go_sem,bb,aM,aQ]) rfl (MS.finPR aa.o HR.o (by rw[h.o.1,p.o.1,f.o.1]<;>simp))):Zp:=h
theorem xbi(h:Zp:=by
 obtain⟨⟨bF,a9,ba,be,bi,s⟩,b9,bK,aR,g,aS,hn,aa,HO⟩:=H.op O Z m1 e1 m3 af;clear H;unfold MvC;go_enter func165,ntmps165;go_wp2_with fail;exact yaz (by simp[results,results165,go_sem]) rfl (sV HO.o (((ez 0 0 w _).trans (ez 0 0 _ _)).trans (ez 0 0 _ _)) _)):Zp:=h
theorem xbj(h:Zp:=by
 obtain⟨_,bd,aL,aJ,_,_,_⟩:=au.o.bx;have ad:=bc.o;go_region_with (first|(go_at_call 38;refine yaj (aI.o _ _ _ _ _ _ _ B.o bo.o _ aF) ?_;rintro e ag ⟨aB,cap',rfl,aO,aA⟩;obtain⟨_,bm,ay,aW,bv,bA,bM⟩:=aO)|(go_at_call 40;refine yaj (gO _ _ _ _ _ _) ?_;rintro e ab ⟨rfl,aF⟩;obtain⟨_,aT,ao,aG,_,_,_⟩:=(B.o.keep aF).bx)|(go_at_call 33;refine yaj (au.o.keep (eF _)).next ?_;rintro e a7 ⟨rfl,(B:V _),cc⟩;have bo:V _:=HK.o.trans ((fh (eF _)).trans cc);obtain⟨_,bC,aN,a2,_,_,_⟩:=B.o.bx;clear cc))
 all_goals
  go_wp2_with fail
  obtain⟨bf,aP,aY⟩:=eZ ag (w.heap.size+1) _ _ _ bm ay aW (.slice a1 n1 c1) (hC aB (vs.length+1) cap') (.slice a3 n3 c3)
  exact yaz (v:=eV a1 n1 c1 (some ⟨aB,0,none⟩) (vs.length+1) cap' a3 n3 c3) (by simp[results,results42,go_sem,bf,aP,aY]) rfl aA):Zp:=h
theorem xbk(h:Zp:=by
 unfold MfK;intros;rename_i ab C;obtain⟨bb,aM,aQ,HR⟩:=C;go_wp2_with fail;exact yaz (by simp[results,results165,go_sem,bb,aM,aQ]) rfl (MS.finR aa.o HR.o (by rw[f.o.1]<;>simp))):Zp:=h
theorem xbl(h:Zp:=by
 have B:=h.keep k;refine(se _ _ _ _ _ _ _ _ _ _ _ u B.g.own B.g.sz hn).mono ?_;rintro e ag ⟨aB,cap',rfl,own,s⟩;rw[h.g.row]at s;have hb:=s.chg.block _ B.g.lt (by rintro (c|c);exact c;exact h.g.ne c);have e:∀o,_:=λo=>World.cell?_of_block (a:=⟨w.heap.size,o,none⟩) hb;have j:∀o,_:=λo=>World.frozen?_of_block (a:=⟨w.heap.size,o,none⟩) hb;have ab:(vs++[u]).length=vs.length+1:=by simp
 have au:=h.step (vs2:=vs++[u]) (a2':=some ⟨aB,0,none⟩) (cap':=cap') (l:=W.heap.size) (h':=W.heap.size) k (by rw[ab];exact own) (R':=some aB) rfl s ((Kept.refl 0 0 ag).mono λ_ _ c=>by omega) yad (λg _=>by omega);rw[ab]at au;exact⟨_,_,rfl,⟨_,(e 0).trans B.g.c0⟩,⟨_,(e 1).trans B.g.c1⟩,⟨_,(e 2).trans B.g.c2⟩,λo=>by rw[j];exact B.g.free o,au⟩):Zp:=h
theorem xbm(h:Zp:=by
 have HE:V _:=ar;clear ar;refine fx (xe aa xaa (HE.o.2) ?_);unfold MfK;intros;rename_i ab C;obtain⟨bb,aM,aQ,HR⟩:=C;go_wp2_with fail;exact yaz (by simp[results,results165,go_sem,bb,aM,aQ]) rfl (MS.finR aa.o HR.o HE.o.1)):Zp:=h
theorem xbn(h:Zp:=by
 intros;rename_i HK;have bc:V (∀az,Kept 0 0 W az->_):=λaz k=>MS.call aa.o k (eL 3 G am r 0) xaa;have aT:=aa.o.g.c0;have ao:=aa.o.g.c1;have aG:=aa.o.g.c2;have ba:=aa.o.v.c2;exact xan):Zp:=h
theorem xbo(h:Zp:=by
 go_region_with (first
  |(go_at_call 38;refine yaj (aI.o _ ((eF _).trans bU)) ?_;rintro e ag ⟨us,aB,cap',rfl,ba,aO,aA⟩;obtain⟨_,bm,ay,aW,bv,bA,bM⟩:=aO)
  |(go_at_call 40;refine yaj (gO _ _ _ _ _ _) ?_;rintro e cj ⟨rfl,bU⟩;obtain⟨_,bd,aL,aJ,_,_,_⟩:=(HD.o.keep ((eF _).trans bU)).bx))
 all_goals exact bV.o (L2.of HSV.o ba.o aA)):Zp:=h
theorem xbp(h:Zp:=by
 rcases K with K|K<;>exact⟨⟨#[112,117,116,40]⟩++ao++⟨#[44,32]⟩++sv++⟨#[44,32]⟩++c++⟨#[41]⟩,ni bs bK,gn WkS aq λz X W au=>WkE⟩):Zp:=h
theorem xbq(h:Zp:=by
 generalize W.alloc (.cells #[hD 2,hD 3,hD 4,hD 5,hD 7] 3)=bi at*;clear bf aP aY B aj an;obtain⟨_,bf,aP,aY,B,aj,an⟩:=HD.o.bx;have cb:0<=(c:Int)/8:=xaa;have s:IntKind.i64.wrap ((c:Int)/8)=(c:Int)/8:=by rw[IntKind.wrap_i64];omega
 have t:((c:Int)/8).tmod 5=(q:Int):=(Int.tmod_eq_emod_of_nonneg cb).trans aF;clear ad bT n1 T p J f cb aF;exact xbo):Zp:=h
theorem xbr(h:Zp:=by
 unfold PfC;intros;rename_i HK;have bc:V (∀az,Kept 0 0 W az->_):=λaz k=>MS.call aa.o k (eL 4 G d i 0) xaa;exact xae):Zp:=h
theorem xbs(h:Zp:=by
 generalize g.vs.length=di at*;generalize g.ins.length=bW at*;generalize g.outs.length=bZ at*;go_upto_region 33 with (go_at_call 161;refine yaj bx.o ?_;rintro e b5 ⟨⟨O,an,Z,aC,Y,ae,rfl,aL,aJ,bS,bU⟩,a0⟩);have bf:V (∀W',Kept 0 0 b5 W'->_):=λW' ai=>bd.o W' O an Y ae Z aC (a0.trans ai) (eR aL ai) (eR aJ ai) (eR bS ai) bU;have cC:V (∀W',Kept 0 0 b5 W'->_):=λW' ai=>(cl.o.keep (a0.trans ai)).c1;clear aL aJ bS bU bd bx cr a8 aV p2;have d2:=cC.o _ (ez 0 0 b5 (eW O bW an Y m.length ae Z bZ aC));have cx:V _:=bf.o _ (ez 0 0 b5 (eW O bW an Y m.length ae Z bZ aC));go_wp2_with (go_at_call 160;refine yaj cx.o ?_;rintro e bg ⟨⟨x,rfl⟩,bh⟩);go_ret;exact bh.o):Zp:=h
theorem xbt(h:Zp:=by
 go_wp2_with fail;exact xbv):Zp:=h
theorem xbu(h:Zp:=by
 have c1:=a6.o.c k C;have c2:=a6.o.n.t.c2;generalize y:keysL.getD k _=G at c1;go_upto_region 12 with fail;go_quiet (fail)
 have b0:V _:=a6.o.keep (eK 0 0 _ nq);clear c1 c2 a6;generalize wr.drewN _=bj at b0⊢;have aQ:=b0.o.n.t.c0;have bY:=b0.o.n.t.fr 0;have cg:=b0.o.n.t.c2;cases am:(G==x)
 ·exact xfa
 exact xfg):Zp:=h
theorem xbv(h:Zp:=by
 obtain⟨_,bd,aL,aJ,_,_,_⟩:=au.o.bx;go_region_with (first|(go_at_call 38;refine yaj (aI.o _ _ _ _ _ _ _ au.o HK.o _ ((eF _).trans aF)) ?_;rintro e ag ⟨aB,cap',rfl,aO,aA⟩;obtain⟨_,bm,ay,aW,bv,bA,bM⟩:=aO)|(go_at_call 40;refine yaj (gO _ _ _ _ _ _) ?_;rintro e ab ⟨rfl,aF⟩;obtain⟨_,aT,ao,aG,_,_,_⟩:=(au.o.keep ((eF _).trans aF)).bx))
 all_goals
  go_wp2_with fail
  obtain⟨bf,aP,aY⟩:=eZ ag (w.heap.size+1) _ _ _ bm ay aW (.slice a1 n1 c1) (hC aB (vs.length+1) cap') (.slice a3 n3 c3)
  exact yaz (v:=eV a1 n1 c1 (some ⟨aB,0,none⟩) (vs.length+1) cap' a3 n3 c3) (by simp[results,results42,go_sem,bf,aP,aY]) rfl aA):Zp:=h
theorem xbw(h:Zp:=by
 obtain rfl:k=15:=xaa;have u:V _:=a6.o.n;rw[show sh x _=mJ x from rfl]at u;obtain⟨_,bm,ay,aW,ae⟩:=u.o.r;obtain⟨_,bf,aP,aY,r⟩:=u.o.t;have bv:=ae 0;have bA:=ae 1;have bM:=ae 2;have U:V _:=u.o.fin;generalize z:mJ x=au at bf U;have be:V _:=z;clear a6 ae r u z;go_wp2_with fail;change bodyPost _ _ _ _ _ (((wr.setCell _ (eN _)).setCell _ _).setCell _ (eN x));generalize ((wr.setCell _ _).setCell _ _).setCell _ _=ci at U⊢;obtain⟨⟨_,bG,f1,f2,_⟩,m⟩:=U.o;refine yaz (v:=.tuple #[.agg #[eN au,hD i,eN x],hD j]) (by simp[results,results114,go_sem,bG,f1,f2]) rfl ⟨?_,m⟩;rw[bn.o,be.o];rfl):Zp:=h
theorem xbx(h:Zp:=by
 have I:=aa.o.len1 hj m;have b9:0<=(j:Int):=xaa;have bK:(j:Int)<vs.length:=xaa;clear m;exact xad):Zp:=h
theorem xby(h:Zp:=by
 have bz:V (r=.error (c,p)):=by show _=_;rw[HR.o,cI.o _ rfl];rfl
 go_wp2_with (go_at_call 118;refine yaj cn.o ?_;rintro e bj ⟨rfl,bh⟩);go_ret;rw[bz.o];exact TrO.after cN.o ⟨rfl,bh⟩):Zp:=h
theorem xbz(h:Zp:=by
 clear g;exact xaj):Zp:=h
theorem xca(h:Zp:=by
 obtain⟨⟨bF,a9,ba,be,bi,s⟩,b9,bK,aR,g,aS,hn,aa,HO⟩:=H.op O Z m1 e1 m3 af;clear H;unfold PtC;go_enter func164,ntmps164;go_wp2_with fail;rw[aS.o];clear bF a9 ba be bi s aS;refine fx (Mk aa xaa ?_);exact no_implicit_lambda% xah):Zp:=h
theorem xcb(h:Zp:=by
 obtain⟨⟨bF,a9,ba,be,bi,s⟩,b9,bK,aR,g,aS,hn,aa,HO⟩:=H.op O Z m1 e1 m3 af;clear H;unfold MvC;go_enter func165,ntmps165;go_wp2_with fail;rw[aS.o];clear bF a9 ba be bi s aS;refine fx (L4 aa xaa ?_);clear aa;unfold MfK;intros;rename_i wc C;obtain⟨c,aB,cap',f,I,aa⟩:=C;go_wp2_with fail;refine fx (Mh aa xaa (show(c.length:Int)-1=(vs.length:Nat) by have:=f.o.2;omega) ?_);exact no_implicit_lambda% xbk):Zp:=h
theorem xcc(h:Zp:=by
 obtain⟨⟨bF,a9,ba,be,bi,s⟩,b9,bK,aR,g,aS,hn,aa,HO⟩:=H.op O Z m1 e1 m3 af;clear H;unfold PtC;go_enter func164,ntmps164;go_wp2_with fail;exact yaz (by simp[results,results164,go_sem]) rfl (xG HO.o (((ez 0 0 w _).trans (ez 0 0 _ _)).trans (ez 0 0 _ _)) _ _)):Zp:=h
theorem xcd(h:Zp:=by
 have bi:=aa.o.v.c4;exact xad):Zp:=h
theorem xce(h:Zp:=by
 go_enter func151,ntmps151;go_wp2_with fail;refine(gK _ _).mono ?_;rintro e I ⟨rfl,rfl⟩;exact xci):Zp:=h
theorem xcf(h:Zp:=by
 go_wp2_with (first|(go_at_call 117;refine yaj (bm.o _ _ bD.o) ?_;rintro e a7 ⟨rfl,S⟩)|fail);exact xdw):Zp:=h
theorem xcg(h:Zp:=by
 go_round
 case rel=>exact⟨k+1,by omega,by go_num,U⟩
 case measure=>simp[intOf];omega):Zp:=h
theorem xch(h:Zp:=by
 have ab:=sT u.o;generalize Lib.bytesWorld wr 5 ⟨bF.toArray⟩=W2 at q bO R;generalize wr.heap.size=Z at q bO;generalize grownCap wr bF.length 0 5=bK at q;go_upto_region 12 with (go_at_call 69;refine yaj (rA W2 _ _ _ _ bO.o xaa) ?_;rintro e bj ⟨b5,c,rfl,C,a5⟩);obtain⟨_,rfl⟩:=rR u.o C;have a9:V _:=(aw.o.trans R.o).trans (a5.kept 0 0);clear q bO R C a5 bd aJ u;exact xdh):Zp:=h
theorem xci(h:Zp:=by
 go_wp2_with fail;refine(gK _ _).mono ?_;rintro e I ⟨rfl,rfl⟩;go_wp2_with fail;refine(gK _ _).mono ?_;rintro e I ⟨rfl,rfl⟩;go_wp2;go_ret;exact⟨rfl,rfl⟩):Zp:=h
theorem xcj(h:Zp:=by
 have H:V (r=.error (c,p)):=by show _=_;rw[bz.o];unfold mP;rw[<-bZ.o]
 go_wp2_with (go_at_call 143;refine yaj Z.o ?_;rintro e bj ⟨rfl,bh⟩);go_ret;rw[H.o];exact⟨rfl,bh.1,bh.2.1,((Mv.of HK.o).trans ay.o).bad bh.2.2⟩):Zp:=h
theorem xck(h:Zp:=by
 go_roundw;exact⟨trivial,k+1,by omega,by go_num,U⟩;simp[intOf];omega):Zp:=h
theorem xcl(h:Zp:=by
 refine⟨aT,ni bs b9,gn xaa xab λz X W au=>?_⟩;repeat (rw[yar]at z;refine sz2 z ?_;clear z;intro _ z)
 exact xak):Zp:=h
theorem xcm(h:Zp:=by
 go_enter func150,ntmps150;go_wp2_with (first|(go_at_call 33;refine yaj bu.o ?_;rintro e aO ⟨rfl,av,aj,aN⟩)|(go_at_call 71;refine yaj (HD.o _) ?_;rintro e ag ⟨rfl,rfl⟩));go_ret;exact⟨rfl,av,aj,aN⟩):Zp:=h
theorem xcn(h:Zp:=by
 go_wp2_with fail;go_roundw;exact⟨k+1,F,S,by omega,by omega,by go_num,rfl,by rw[U.o],by omega,h,j,aS,C,aw⟩;simp[intOf];omega):Zp:=h
theorem xco(h:Zp:=by
 have bi:=u (j*6+0);rw[Nat.add_zero]at T al bi;exact xau):Zp:=h
theorem xcp(h:Zp:=by
 clear aa;unfold PfK;intros;rename_i wc C;obtain⟨vs2,aB,cap',p,aA,aa⟩:=C;go_wp2_with fail;refine fx (kQ aa xaa (show(vs2.length:Int)-1=((vs.length:Nat)+1) by have:=f.o.2;have:=p.o.2;omega) ?_);unfold PfK;intros;rename_i ab C;obtain⟨bb,aM,aQ,HR⟩:=C;go_wp2_with fail;exact yaz (by simp[results,results164,go_sem,bb,aM,aQ]) rfl (MS.finPR aa.o HR.o (by rw[p.o.1,f.o.1]<;>simp))):Zp:=h
theorem xcq(h:Zp:=by
 have bz:V (r=.error (c,p)):=by show _=_;rw[HR.o,HE.o _ rfl];rfl
 go_wp2_with (go_at_call 118;refine yaj aj.o ?_;rintro e a7 ⟨rfl,bh⟩);go_ret;rw[bz.o];exact TrO.back HK.o ⟨rfl,bh⟩):Zp:=h
theorem xcr(h:Zp:=by
 rcases Nat.lt_or_ge g W.heap.size with c|c
 ·exact c
 rw[Array.getElem?_eq_none c]at ax;cases ax):Zp:=h
theorem xcs(h:Zp:=by
 clear bM bI bL bJ bc bN;go_wp2_with fail;go_roundw;exact⟨k+1,aG,xs++[Y],by omega,by omega,by go_num,by rw[yal,aq.o];rfl,b9,R1,cM,cd⟩;simp[intOf];omega):Zp:=h
theorem xct(h:Zp:=by
 refine⟨⟨_,_,_,_,aF,⟨C.bad ⟨G.chg.os,G.chg.tape,G.chg.output,G.chg.size,λi hi hn=>G.chg.block i hi (λc=>hn (.inl c))⟩,λb hb=>?_⟩,λb hb c=>?_⟩,fy ar G.chg al⟩
 ·exact xfy
 rcases G.new b c with d|d
 ·grind
 have:=(eH ar hb).2;omega):Zp:=h
theorem xcu(h:Zp:=by
 have K:=fg W' (w.heap.size+1) (.slice O n1 e1) (.slice Y vs.length cap) (.slice Z n3 af);have hb:=h.hb
 have au:∀{e size n:Nat}{v:Value}{xs:List _},W.ownsRow base e size v n xs->(fw W' _ _ _ _).ownsRow w.heap.size e _ v n _:=λal=>
  je (fX (eR al k) K (λg aR=>hM ((eH al aR).1))) xaa
 exact⟨⟨au h.i,au h.g.own,au h.o⟩,Kept.new (h.k.trans k) K xaa⟩):Zp:=h
theorem xcv(h:Zp:=by
 clear aa;unfold MfK;intros;rename_i wc C;obtain⟨c,aB,cap',f,I,aa⟩:=C;go_wp2_with fail;refine fx (FF aa xaa (show(c.length:Int)-1=(vs.length:Nat) by have:=f.o.2;omega) ?_);exact no_implicit_lambda% xbk):Zp:=h
theorem xcw(h:Zp:=by
 intro i hi;rcases List.mem_append.1 hi with hi|hi
 ·exact yak (N.o i hi) aw.n
 simp at hi;subst hi;exact cU):Zp:=h
theorem xcx(h:Zp:=by
 go_wp2;exact xcg):Zp:=h
theorem xcy(h:Zp:=by
 rw[eO]at h;cases B:eO f st u a with
 |none=>rw[B]at h;cases h
 |some ay=>
  rw[B]at h;rcases ay with⟨c,p⟩|⟨ao,x⟩
  ·cases h;exact⟨_,rfl,rfl⟩
  cases h;exact⟨_,rfl,rfl⟩):Zp:=h
theorem xcz(h:Zp:=by
 have aD:=(D 0).1;have l:=(Vaa 0).1;rcases uV aT with⟨bf,aY⟩|⟨bf,aY⟩
 ·exact xbp
 exact xbp):Zp:=h
theorem xda(h:Zp:=by
 have aD:=(D 0).1;have l:=(Vaa 0).1;rcases uV aT with⟨bf,aY⟩|⟨bf,aY⟩
 ·exact xbp
 exact xgm):Zp:=h
theorem xdb(h:Zp:=by
 go_wp2_with (first|(go_at_call 117;refine yaj (bm.o _ _ bR.o) ?_;rintro e bj ⟨rfl,S⟩)|fail);go_ret;rw[U.o];exact⟨rfl,S.c5,S.c6,(Mv.of bR.o).bad S.chg⟩):Zp:=h
theorem xdc(h:Zp:=by
 clear y b0;go_wp2_with fail;exact xba):Zp:=h
theorem xdd(h:Zp:=by
 clear hb;go_wp2;exact xck):Zp:=h
theorem xde(h:Zp:=by
 rcases List.mem_append.1 aH with c|c
 ·exact f.dg.k u c
 simp only[List.mem_singleton]at c;subst c;exact aD):Zp:=h
theorem xdf(h:Zp:=by
 go_region_with (first
  |(go_at_call 40;refine yaj (gO _ _ _ _ _ _) ?_;rintro e a7 ⟨rfl,aF⟩;have C:=(y.o.keep ((eF ag).trans aF)).c1)
  |(go_at_call 121;refine yaj (bZ.o _ (bD.o.trans ((eF ag).trans aF))) ?_;rintro e bj ⟨⟨x,rfl⟩,bh⟩))
 all_goals (go_wp2_with fail;go_ret;rw[U.o];exact bh.o)):Zp:=h
theorem xdg(h:Zp:=by
 have B:=E1.1;obtain⟨aG,cr,E2⟩:=aa (1) xaa (bK);have J:=E2.1;rcases uV aT with⟨bf,aY⟩|⟨bf,aY⟩
 ·exact xjs
 exact xfx):Zp:=h
theorem xdh(h:Zp:=by
 go_wp2_with fail;go_roundw;exact⟨i+1,by omega,by go_num,a9⟩;simp[intOf];omega):Zp:=h
theorem xdi(h:Zp:=by
 go_enter func128,ntmps128;go_wp2;go_ret;exact⟨rfl,HK.o _ _⟩):Zp:=h
theorem xdj(h:Zp:=by
 go_region_with (first
  |(go_at_call 40;refine yaj (gO _ _ _ _ _ _) ?_;rintro e a7 ⟨rfl,aF⟩;have C:=(y.o.keep ((eF ag).trans aF)).c1)
  |(go_at_call 121;refine yaj (bC.o _ ((eF ag).trans aF)) ?_;rintro e bj ⟨⟨x,rfl⟩,bh⟩))
 all_goals (go_wp2_with fail;go_ret;exact bh.o)):Zp:=h
theorem xdk(h:Zp:=by
 go_region_with (first|(go_at_call 51;refine(bJ.o _).mono ?_;rintro e ag ⟨rfl,rfl⟩)|(go_at_call 98;refine(bT.o _).mono ?_;rintro e ag ⟨rfl,rfl⟩)|(go_at_call 84;refine(aZ.o 1).mono ?_;rintro e ag ⟨rfl,N⟩))
 all_goals
  go_wp2_with fail
  go_meet
  exact⟨rfl,(eK 0 0 _ 1).trans N⟩):Zp:=h
theorem xdl(h:Zp:=by
 go_wp2_with (go_at_call 145;refine yaj f.o ?_;rintro e ag ⟨rfl,S⟩);exact xeu):Zp:=h
theorem xdm(h:Zp:=by
 go_wp2;go_roundw;exact⟨k+1,by omega,by go_num,R1,R2⟩;simp[intOf];omega):Zp:=h
theorem xdn(h:Zp:=by
 rcases zW C with⟨B,_⟩|⟨B,J⟩
 ·exact xip
 exact xfk):Zp:=h
theorem xdo(h:Zp:=by
 generalize (⟨_⟩:ByteArray)=h at HD bi⊢;exact xcm):Zp:=h
theorem xdp(h:Zp:=by
 have c:∀o,(fw aO _ _ _ _).cell? _=aO.cell? ⟨_,o,none⟩:=λo=>K.cell bk (by simp_all);have cF:∀o,(fw aO _ _ _ _).frozen? _=aO.frozen? ⟨_,o,none⟩:=λo=>K.frozen bk (by simp_all);exact⟨yak bk K.size,by grind,by grind,by grind,by grind,by grind,by grind⟩):Zp:=h
theorem xdq(h:Zp:=by
 have a:r.testBit i=false:=Nat.testBit_lt_two_pow (yak hb (og xaa));have b:(2 ^ 63+r).testBit i=false:=Nat.testBit_lt_two_pow (yak (show 2 ^ 63+r<2 ^ 64 by omega) (og xaa));rw[a,b,show decide _=false from yay xaa];rfl):Zp:=h
theorem xdr(h:Zp:=by
 go_enter func81,ntmps81;go_wp2;go_ret;exact⟨_,rfl,gN _ _ _ _,gu _ _ _ _,_,rfl⟩):Zp:=h
theorem xds(h:Zp:=by
 clear aU;go_enter func44,ntmps44;go_wp2_with fail;generalize c:(w.alloc (eW a1 n1 l (some ⟨ap,bO,none⟩) T c2 a3 n3 c3)).alloc (fB 0 len A R C K)=g at bD bd aL aJ bu d1 d2 d3 H aj⊢;clear c;go_quiet (fail)
 go_wp2;go_ret;exact⟨rfl,bD.o.trans (eK 0 0 _ _)⟩):Zp:=h
theorem xdt(h:Zp:=by
 go_wp2_with fail;go_roundw;exact⟨trivial,l+1,by omega,by go_num,by rw[U.o],by rw[U.o]⟩;simp[intOf];omega):Zp:=h
theorem xdu(h:Zp:=by
 go_wp2_with (go_at_call 118;refine yaj aj.o ?_;rintro e ag ⟨rfl,bh⟩);go_ret;rw[HR.o];exact TrO.back HK.o ⟨rfl,bh⟩):Zp:=h
theorem xdv(h:Zp:=by
 refine⟨J.bad ⟨bT.os,bT.tape,bT.output,bT.size,λi hi hn=>bT.block i hi (λc=>hn (.inr c))⟩,λb hb=>?_⟩;rcases hb with c|c
 ·exact J.new b (.inl c)
 exact xhg):Zp:=h
theorem xdw(h:Zp:=by
 go_ret;rw[U.o];exact⟨rfl,S.c5,S.c6,(Mv.of bD.o).bad S.chg⟩):Zp:=h
theorem xdx(h:Zp:=by
 go_roundw;exact⟨k+1,by omega,by go_num,R3⟩;simp[intOf];omega):Zp:=h
theorem xdy(h:Zp:=by
 go_enter func61,ntmps61;go_wp2;go_ret;exact⟨rfl,rfl⟩):Zp:=h
theorem xdz(h:Zp:=by
 obtain⟨bd,aL,_,_,au,ck⟩:=aO.o W' ai;have X:=(aW.o.keep ai).lt;have c7:=yak ah ai.size;exact⟨(bK.cell (p:=⟨aR,1,none⟩) X cj).trans aL,(bK.cell (p:=⟨ar,of,none⟩) c7 ce).trans au,(bK.cell (p:=⟨ar,of+1,none⟩) c7 ce).trans ck⟩):Zp:=h
theorem xea(h:Zp:=by
 go_wp2_with (first|(go_at_call 48;refine yaj (ca.o _) ?_;rintro e cq ⟨rfl,rfl⟩)|fail);clear aM bC aN a2 bk bq co;go_roundw;exact⟨i-1,j+1,by go_num,hM fM.o,hM fM.o,R2⟩;simp[intOf];omega):Zp:=h
theorem xeb(h:Zp:=by
 rw[aP]at aD;subst aD;rcases be with c|c
 ·exact F _ N c
 have:=(eH al N).2;omega):Zp:=h
theorem xec(h:Zp:=by
 intro v' bg bQ a0 r;obtain⟨G,cap,rfl,O,ax⟩:=yC bQ r;have U:V _:=mH a0 (λk N=>hM ((by simpa[Value.ownBlock] using N))) f.o yad;have R2:V _:=bQ;clear bQ a0 r;go_wp2;go_ret;exact⟨G,_,rfl,O,ax,R2.o,U.o⟩):Zp:=h
theorem xed(h:Zp:=by
 clear f ab hn bx e;generalize fd _=cv at bn aY ad;go_enter func149,ntmps149;go_wp2_with fail;refine yaj bn.o ?_;rintro e ag ⟨rfl,ah⟩;have U:V _:=Kept.trans HK.o ah;clear ah bn;go_wp2;go_ret;exact⟨rfl,U.o⟩):Zp:=h
theorem xee(h:Zp:=by
 rcases ar.row with c|⟨r,c,av⟩
 ·exact .inl c.symm
 cases c;exact .inr av):Zp:=h
theorem xef(h:Zp:=by
 go_enter func84,ntmps84;go_wp2;go_quiet ((first|(go_at_call 51;exact Calls.quiet_of_same (gF _ _))|(go_at_call 53;exact Calls.quiet_of_same (iu _ _ _))))
 go_wp2;go_ret;exact⟨rfl,(ez _ _ _ _).trans (eK _ _ _ _)⟩):Zp:=h
theorem xeg(h:Zp:=by
 rintro e I ⟨rfl,rfl⟩;go_wp2;go_ret;exact⟨_,rfl,rfl,by omega,0,rfl⟩):Zp:=h
theorem xeh(h:Zp:=by
 clear N;go_wp2;go_ret;exact⟨_,rfl,(gu _ _ _ _).trans bo.o.symm,gN _ _ _ _,B.drw _,au.trans (eK _ _ _ _)⟩):Zp:=h
theorem xei(h:Zp:=by
 subst aD;have f:(Value.slice Y (vs0++M.1).length cap).ownBlock≠some (w.heap.size+1):=hO h.g.row h.n1
 exact⟨_,_,_,rfl,eJ (eJ (eJ (eR h.g.own k) f) f) f,h.g.row,(h.s.keepQ k).new (fg _ _ _ _ _) xaa⟩):Zp:=h
theorem xej(h:Zp:=by
 go_wp2_with ((go_at_call 48;refine yaj (ca.o _) ?_;rintro e bg ⟨rfl,rfl⟩));go_roundw
 case rel=>exact⟨j+1,by omega,by have:=bP.o;congr 1<;>omega,R1,R2⟩
 case measure=>have:=bP.o;simp[intOf]<;>omega):Zp:=h
theorem xek(h:Zp:=by
 rcases hb with c|c|c|c|c
 ·exact .inl (.inl c)
 ·exact .inr (yao f (eH ay c).1)
 ·exact .inr (yao f (eH aW c).1)
 ·exact .inr (yao f (eH am c).1)
 exact .inl (.inr (.inr (.inr (.inr c))))):Zp:=h
theorem xel(h:Zp:=by
 unfold MfK;intros;rename_i ab C;obtain⟨bb,aM,aQ,HR⟩:=C;go_wp2_with fail;exact yaz (by simp[results,results165,go_sem,bb,aM,aQ]) rfl (MS.finR aa.o HR.o (by rw[h.o.1,p.o.1,f.o.1]<;>simp))):Zp:=h
theorem xem(h:Zp:=by
 have:=ij S.1 (rnm S.2 (vs.getD i hI));rw[E.l1]at this;exact this):Zp:=h
theorem xen(h:Zp:=by
 go_wp2_with fail;exact xdx):Zp:=h
theorem xeo(h:Zp:=by
 have B:∀g,(Value.slice _ _ _).ownBlock=some g->U≠some g:=λg aR=>by rw[<-h.g.row];exact F g aR
 refine⟨B,λc=>?_,λg aR=>?_⟩
 ·have:=(eH al c).1;have:=h.hb;omega
 rw[Q];exact f g (eH al aR).2 (B g aR)):Zp:=h
theorem xep(h:Zp:=by
 go_upto_region 23 with fail;go_region
 all_goals (
  go_wp2_with fail
  refine yaz (v:=.tuple #[wg,hD c,hD p]) (by simp[results,results35,go_sem,bC,aN,aQ]) rfl ?_
  rw[bm.o]
  exact⟨rfl,U.o⟩)):Zp:=h
theorem xeq(h:Zp:=by
 go_enter func144,ntmps144;go_wp2;go_ret;exact⟨rfl,rfl⟩):Zp:=h
theorem xer(h:Zp:=by
 rw[List.getElem?_take_of_lt xaa]at this;rw[this,List.getElem?_map,yam (by omega:j<xs.length)];simp[List.getD_eq_getElem?_getD,List.getElem?_eq_getElem (by omega:j<xs.length)]):Zp:=h
theorem xes(h:Zp:=by
 clear h a6;go_enter func16,ntmps16;go_wp2_with fail;refine yaj s.o ?_;rintro e aO ⟨rfl,aj⟩;obtain⟨_,bd,aL,aJ⟩:=aS.keep aj;clear aS;go_wp2;go_ret;exact⟨rfl,aw.o.trans aj⟩):Zp:=h
theorem xet(h:Zp:=by
 go_enter func95,ntmps95;go_wp2;go_ret2
 exact⟨rfl,rfl⟩):Zp:=h
theorem xeu(h:Zp:=by
 go_ret;rw[HR.o];exact⟨rfl,S.c5,S.c6,(Mv.of HK.o).bad S.chg⟩):Zp:=h
theorem xev(h:Zp:=by
 have B:=bD.o;rw[yap (by rw[ax.o];decide),bU.o]at B;exact hH B):Zp:=h
theorem xew(h:Zp:=by
 go_wp2_with fail;refine(jh _ _ _ _ _ _ _ C).mono ?_;rintro e ag ⟨rfl,J,z,b5⟩;clear b5;go_wp2;go_roundw;exact⟨j+1,by omega,by go_num,rfl,J,aS.trans z⟩;simp[intOf];omega):Zp:=h
theorem xex(h:Zp:=by
 go_enter func75,ntmps75;go_wp2;go_ret;exact⟨rfl,rfl⟩):Zp:=h
theorem xey(h:Zp:=by
 rw[hG c,hG c];exact congrArg _ (gl _ (gD F k) (gD hb k))):Zp:=h
theorem xez(h:Zp:=by
 rw[List.drop_succ_cons,List.drop_succ_cons,List.drop_zero,show ts++[c,n,q]=(ts++c::[n])++[q] by simp,List.take_append_of_le_length yag,yap yag]):Zp:=h
theorem xfa(h:Zp:=by
 have U:V _:=b0.o.miss C (by rw[y];intro c;rw[c]at am;simp at am);exact xdc):Zp:=h
theorem xfb(h:Zp:=by
 refine Chg.new (Chg.new HK.o.chg bF.o (λb hb c=>?_)) (K.chg1 (S:=λb=>b=w.heap.size+1) rfl) (λb hb c=>by omega);rcases c with c|c|c
 ·exact .inl c
 ·exact .inr c
 exact c.elim):Zp:=h
theorem xfc(h:Zp:=by
 rw[yai,yas yad,Nat.sub_self];rfl):Zp:=h
theorem xfd(h:Zp:=by
 have:=R2.o;rw[<-bi.o,<-f.o]at this;rw[List.range_succ,List.map_append];exact this):Zp:=h
theorem xfe(h:Zp:=by
 rw[yai,yat N,<-yai]):Zp:=h
theorem xff(h:Zp:=by
 go_roundw
 case rel=>
  exact xgw
 case measure=>simp[intOf];omega):Zp:=h
theorem xfg(h:Zp:=by
 have U:V _:=b0.o.hit C (by rw[y];simpa using am);exact xdc):Zp:=h
theorem xfh(h:Zp:=by
 intro g cap I B J h3 _;have e:aT.length+1=(aT++[y]).length:=by rw[yal];rfl
 rw[e]at B⊢;refine h g cap _ I rfl ?_ (ii J) h3;rw[List.map_append];exact B):Zp:=h
theorem xfi(h:Zp:=by
 obtain⟨_,rfl⟩:=rR aB C;clear q bO R C a5 bd aL aJ u aB p;exact xdh):Zp:=h
theorem xfj(h:Zp:=by
 have:=aU.o;rw[yap (hR HL.o)]at this;exact this):Zp:=h
theorem xfk(h:Zp:=by
 refine⟨?_,J⟩;rcases B with⟨a1,Y⟩|⟨a1,Y,a3⟩<;>rcases an with⟨O,ax⟩|⟨O,ax,Z⟩
 ·rw[Y,ax]
 ·exact absurd O a1
 ·exact absurd a1 O
 rw[a3,Z]):Zp:=h
theorem xfl(h:Zp:=by
 go_enter func130,ntmps130;go_wp2_with fail;refine(gK _ _).mono ?_;exact xeg):Zp:=h
theorem xfm(h:Zp:=by
 rintro (c|c|c|c|c)
 ·have:=h.lt;omega
 ·have:=(eH h.r1 c).2;omega
 ·have:=(eH h.r2 c).2;omega
 ·have:=(eH h.r3 c).2;omega
 have:=(eH h.r4 c).2;omega):Zp:=h
theorem xfn(h:Zp:=by
 rw[e];go_enter func138,ntmps138;go_wp2;go_ret;exact⟨rfl,rfl⟩):Zp:=h
theorem xfo(h:Zp:=by
 clear ah;go_wp2_with fail;go_quiet (fail)
 go_wp2;go_ret;exact⟨by rw[R1.o,U.o];rfl,(bD.o.trans (Drawn.kept HD.o 0 0)).trans (eK 0 0 _ _)⟩):Zp:=h
theorem xfp(h:Zp:=by
 go_enter func84,ntmps84;go_wp2;go_ret;exact⟨rfl,ez _ _ _ _⟩):Zp:=h
theorem xfq(h:Zp:=by
 rw[hG c];right;exact e _ (gm (by rw[uM xaa];omega)) xaa):Zp:=h
theorem xfr(h:Zp:=by
 go_enter func93,ntmps93;go_wp2;go_ret;exact⟨rfl,ez _ _ _ _⟩):Zp:=h
theorem xfs(h:Zp:=by
 refine⟨?_,?_,?_,?_,?_,?_⟩;all_goals first|(go_simp;done)|(simp;done)):Zp:=h
theorem xft(h:Zp:=by
 rcases aR with c|c
 ·exact(aS _ c).2
 have:=f.rs.sz;have:=f.bx.sz;omega):Zp:=h
theorem xfu(h:Zp:=by
 rw[show 0x7ff0000000000000=9218868437227405312 from rfl,e];refine⟨?_,Je xaa⟩;rw[show f64.read _=_ from od xaa xaa];rfl):Zp:=h
theorem xfv(h:Zp:=by
 rw[yai,yam ab]at h;simp only[Option.getD_some]at h;rw[yau ab];grind):Zp:=h
theorem xfw(h:Zp:=by
 rw[yau aa,List.all_append,aU.o];rw[yai,yam aa]at t;simpa using t):Zp:=h
theorem xfx(h:Zp:=by
 rcases K with K|K<;>exact⟨⟨#[106,118,112,40]⟩++ao++⟨#[44,32]⟩++aT++⟨#[44,32]⟩++aG++⟨#[41]⟩,cr,gn WkS aq λz X W au=>WkE⟩):Zp:=h
theorem xfy(h:Zp:=by
 rcases hb with c|c
 ·exact xhq
 exact C.new b (.inr c)):Zp:=h
theorem xfz(h:Zp:=by
 go_enter func131,ntmps131;go_wp2;go_ret;exact⟨rfl,rfl⟩):Zp:=h
theorem xga(h:Zp:=by
 go_wp2_with fail;go_quiet ((go_at_call 53;exact Calls.quiet_of_same (a6.o _)))
 go_wp2;go_ret;exact⟨rfl,bR.o.trans (eK 0 0 _ _)⟩):Zp:=h
theorem xgb(h:Zp:=by
 go_wp2_with (go_at_call 118;refine yaj cQ.o ?_;rintro e a7 ⟨rfl,bh⟩);go_ret;rw[HR.o];exact TrO.after bJ.o ⟨rfl,bh⟩):Zp:=h
theorem xgc(h:Zp:=by
 go_wp2_with (go_at_call 118;refine yaj aj.o ?_;rintro e a7 ⟨rfl,bh⟩);go_ret;rw[HR.o];exact TrO.back bD.o ⟨rfl,bh⟩):Zp:=h
theorem xgd(h:Zp:=by
 go_roundw
 case rel=>
  exact xio
 case measure=>simp[intOf];omega):Zp:=h
theorem xge(h:Zp:=by
 go_wp2;go_roundw
 case rel=>exact⟨_,by omega,by have:=bP.o;congr 1<;>omega,R1,R2⟩
 case measure=>have:=bP.o;simp[intOf]<;>omega):Zp:=h
theorem xgf(h:Zp:=by
 have U:V _:=eb.o (yay xaa);clear eb R1;go_wp2_with fail;go_ret;exact⟨⟨k,rfl,by rw[U.o];simp⟩,aw.o⟩):Zp:=h
theorem xgg(h:Zp:=by
 go_enter func51,ntmps51;go_wp2;go_ret;exact⟨rfl,rfl⟩):Zp:=h
theorem xgh(h:Zp:=by
 go_enter func53,ntmps53;go_wp2;go_ret;exact⟨rfl,rfl⟩):Zp:=h
theorem xgi(h:Zp:=by
 have e:b=g:=by simpa[Value.ownBlock] using h.symm
 subst e;exact xft):Zp:=h
theorem xgj(h:Zp:=by
 rcases hb with c|c|c|c|c
 ·subst c;exact B.lt
 ·exact(eH B.r1 c).2
 ·exact(eH B.r2 c).2
 ·exact(eH B.r3 c).2
 exact(eH B.r4 c).2):Zp:=h
theorem xgk(h:Zp:=by
 rw[aX]at au;go_wp2;go_roundw;exact⟨q+1,by omega,hS au.o,by go_num,R1,R2⟩;simp[intOf];omega):Zp:=h
theorem xgl(h:Zp:=by
 clear t l C;go_wp2_with fail;refine yaj HD.o ?_;rintro e I ⟨rfl,rfl⟩;go_wp2;go_ret2
 exact⟨0,2,rfl,U.o,bo⟩):Zp:=h
theorem xgm(h:Zp:=by
 rcases K with K|K<;>exact⟨⟨#[103,114,97,100,40]⟩++ao++⟨#[44,32]⟩++aT++⟨#[41]⟩,bK,gn WkS aq λz X W au=>WkE⟩):Zp:=h
theorem xgn(h:Zp:=by
 have:=v.2.2;rw[av]at this;exact yao this xaa):Zp:=h
theorem xgo(h:Zp:=by
 have B:=aU.o;rw[show k=m by omega]at B;show inB ins xss=true;unfold inB;rw[HL.o.1,HL.o.2,B,decide_eq_true rfl];rfl):Zp:=h
theorem xgp(h:Zp:=by
 obtain⟨g,c,e,_,aR,_,aU⟩:=mh h.g.own hn rfl;injection e with e1 e2 af;subst e1;exact⟨g,rfl,h.g.row.symm,aR,aU.at_⟩):Zp:=h
theorem xgq(h:Zp:=by
 obtain rfl:k=n:=xaa;go_wp2;go_ret;exact⟨rfl,aw.o⟩):Zp:=h
theorem xgr(h:Zp:=by
 rw[yai,List.getElem?_set,yai];by_cases c:j=i
 ·subst c;simp[hi]
 simp[c]):Zp:=h
theorem xgs(h:Zp:=by
 clear aa bf;go_wp2_with fail;go_roundw;exact⟨j+1,by omega,by go_num,b0,U⟩;simp[intOf];omega):Zp:=h
theorem xgt(h:Zp:=by
 go_wp2_with fail;refine yaj (au.o _) ?_;rintro e ag ⟨rfl,rfl⟩;go_wp2;go_ret;exact⟨by simp,ez _ _ _ _⟩):Zp:=h
theorem xgu(h:Zp:=by
 clear q bO R;go_wp2_with fail;go_roundw;exact⟨i+1,by omega,by go_num,aw⟩;simp[intOf];omega):Zp:=h
theorem xgv(h:Zp:=by
 go_wp2_with (go_at_call 118;refine yaj F.o ?_;rintro e ag ⟨rfl,bh⟩);go_ret;rw[HR.o];exact⟨rfl,bh⟩):Zp:=h
theorem xgw(h:Zp:=by
 obtain⟨S',f,bB,bE,b6,ct⟩:=ab.o v aB cap' _ b7 aA aC bc.o;exact⟨ah+1,S',f,by omega,by go_num,bB,bE,b6,ct⟩):Zp:=h
theorem xgx(h:Zp:=by
 go_wp2;go_roundw;exact⟨j+1,_,_,by omega,by go_num,rfl,by go_num,U,m⟩;simp[intOf];omega):Zp:=h
theorem xgy(h:Zp:=by
 go_wp2;go_roundw
 case rel=>exact⟨trivial,j,by omega,by go_num,HR⟩
 case measure=>simp[intOf];have:=aX.o;omega):Zp:=h
theorem xgz(h:Zp:=by
 clear hb;go_wp2_with fail;go_roundw;exact⟨k+1,by omega,by go_num,HR⟩;simp[intOf];omega):Zp:=h
theorem xha(h:Zp:=by
 have:=h o al;rw[yai,yat xaa,<-yai]):Zp:=h
theorem xhb(h:Zp:=by
 go_wp2_with (go_at_call 147;refine yaj aj.o ?_;rintro e bj ⟨⟨x,rfl⟩,bh⟩);go_ret;exact bh.o):Zp:=h
theorem xhc(h:Zp:=by
 go_wp2;go_roundw;exact⟨j+1,by omega,by have:=bW.o;go_num,R1⟩;simp[intOf];omega):Zp:=h
theorem xhd(h:Zp:=by
 rw[eM _ _ _ _ _ _ (.inl (Ne.symm h)),eM _ _ _ _ _ _ (.inl (Ne.symm h)),eM _ _ _ _ _ _ (.inl (Ne.symm h))]):Zp:=h
theorem xhe(h:Zp:=by
 clear ak aU;exact xcx):Zp:=h
theorem xhf(h:Zp:=by
 intro j u aH;cases j with
 |zero=>cases aH;obtain⟨b,o,m⟩:=ai;simpa[Addr.add] using f
 |succ j=>cases aH):Zp:=h
theorem xhg(h:Zp:=by
 rw[aP]at c;subst c;rcases bv with e|e
 ·exact J.new g9 (.inr e)
 exact .inr (hM J.chg.size)):Zp:=h
theorem xhh(h:Zp:=by
 unfold vd;rw[yai,yai,List.getElem?_map];cases vs[j]?<;>rfl):Zp:=h
theorem xhi(h:Zp:=by
 have:=J;unfold inB at this;simp only[Bool.and_eq_true,decide_eq_true_eq,e1,s.len]at this;exact this.1):Zp:=h
theorem xhj(h:Zp:=by
 go_wp2;go_roundw;exact⟨i+1,_,ai,by omega,by go_num,U⟩;simp[intOf];omega):Zp:=h
theorem xhk(h:Zp:=by
 go_wp2;go_roundw;exact⟨q+1,by omega,by go_num,R1,R2⟩;simp[intOf];omega):Zp:=h
theorem xhl(h:Zp:=by
 obtain⟨⟨a9,ba,be,bi,B,J,h3⟩,a0⟩:=h;exact⟨⟨_,_,_,_,B.keep k,J.keep k,h3⟩,eR a0 k⟩):Zp:=h
theorem xhm(h:Zp:=by
 go_roundw;exact⟨trivial,j+1,by omega,by go_num,U⟩;simp[intOf];omega):Zp:=h
theorem xhn(h:Zp:=by
 go_wp2;go_roundw;exact⟨k+1,by omega,by go_num,R1⟩;simp[intOf];omega):Zp:=h
theorem xho(h:Zp:=by
 rw[yai,yam hi]at h;grind[List.set_getElem_self]):Zp:=h
theorem xhp(h:Zp:=by
 go_wp2_with fail;refine wp_loop_rounds 1 ?_;rw[rounds_succ];go_wp2;go_ret;exact⟨rfl,rfl⟩):Zp:=h
theorem xhq(h:Zp:=by
 rcases G.new b c with d|d
 ·exact C.new b (.inl d)
 exact .inr (yao C.chg.size d)):Zp:=h
theorem xhr(h:Zp:=by
 have:=((ae.nb i hi).mv aw).weak (M':=Mst P a9 ba be bi) (λb hb=>.inl hb);rw[am];exact this):Zp:=h
theorem xhs(h:Zp:=by
 rw[Nat.testBit_two_pow_add_gt hi,show decide _=false from yay xaa];simp):Zp:=h
theorem xht(h:Zp:=by
 cases s
 all_goals
  go_enter func162,ntmps162
  go_wp2
  go_ret
  exact⟨rfl,rfl⟩):Zp:=h
theorem xhu(h:Zp:=by
 go_wp2_with fail;refine yaj HD.o ?_;rintro e I ⟨rfl,rfl⟩;go_wp2;grind[intOf]):Zp:=h
theorem xhv(h:Zp:=by
 rw[e1,e2,Bool.and_eq_true];exact⟨decide_eq_true xaa,decide_eq_true xaa⟩):Zp:=h
theorem xhw(h:Zp:=by
 subst af;obtain⟨aE,cE,aH⟩:=au.o.form;subst aH;go_upto_region 30 with fail;exact WkM):Zp:=h
theorem xhx(h:Zp:=by
 rw[yai,yat h,<-yai]):Zp:=h
theorem xhy(h:Zp:=by
 rintro e ag ⟨aB,cap',rfl,own,s⟩;rw[h.g.row]at s;exact⟨_,_,rfl,h.next k own s⟩):Zp:=h
theorem xhz(h:Zp:=by
 have aG:=P.o o C;have Q:=ir (List.all_eq_true.1 bL.o o (List.mem_range.2 C));omega):Zp:=h
theorem xia(h:Zp:=by
 rw[eM _ _ _ _ _ _ (.inl cD),eM _ _ _ _ _ _ (.inl cD),eM _ _ _ _ _ _ (.inl cD)];exact p):Zp:=h
theorem xib(h:Zp:=by
 go_enter func23,ntmps23;go_wp2
 all_goals
  go_ret
  exact⟨rfl,ez _ _ _ _⟩):Zp:=h
theorem xic(h:Zp:=by
 clear e1 bP;exact xfr):Zp:=h
theorem xid(h:Zp:=by
 left;have:=List.findIdx_le_length (p:=(f8 · v)) (xs:=S.1);rw[E.l1]at this a9;omega):Zp:=h
theorem xie(h:Zp:=by
 go_wp2;go_ret;rw[l.o];exact⟨_,rfl,bO.o,K,HR.o.drw _,aS.trans (eK _ _ _ _)⟩):Zp:=h
theorem xif(h:Zp:=by
 go_wp2_with fail;go_ret;exact⟨_,0,rfl,yaw _ _ _ _,hL⟩):Zp:=h
theorem xig(h:Zp:=by
 simp only[List.append_nil];exact⟨_,_,_,rfl,eR h k,rfl,(StQ.refl _ _ w).keepQ k⟩):Zp:=h
theorem xih(h:Zp:=by
 rw[yai,yam h];exact List.getElem_mem _):Zp:=h
theorem xii(h:Zp:=by
 split
 ·exact .err xab
 split
 ·exact .err xab
 exact kR _ _ _):Zp:=h
theorem xij(h:Zp:=by
 clear ae B J;exact xeq):Zp:=h
theorem xik(h:Zp:=by
 have:=aU.o;rw[yap (hR bn.o)]at this;exact this):Zp:=h
theorem xil(h:Zp:=by
 go_enter func22,ntmps22;go_wp2;go_ret;exact⟨hS HR.o,rfl⟩):Zp:=h
theorem xim(h:Zp:=by
 have:=aU.o;rw[yap (hR j.o)]at this;exact this):Zp:=h
theorem xin(h:Zp:=by
 have:(H.toList.take (n*1))[k]? =(xs.map (Value.int .i64))[k]?:=by rw[bG]
 grind):Zp:=h
theorem xio(h:Zp:=by
 refine⟨k+1,by omega,by go_num,?_,?_⟩
 ·rw[bZ.o]
 rw[bZ.o];exact H.o):Zp:=h
theorem xip(h:Zp:=by
 exfalso;rcases an with⟨h3,_⟩|⟨_,h3,_⟩
 ·exact h3 B.1
 have:=B.2;omega):Zp:=h
theorem xiq(h:Zp:=by
 unfold val;rw[Nat.pow_zero,Nat.mul_one,Nat.mul_assoc,Nat.pow_sub_mul_pow 2 h]):Zp:=h
theorem xir(h:Zp:=by
 go_enter func81,ntmps81;go_wp2;go_ret;exact⟨_,rfl,bX,rfl,0,rfl⟩):Zp:=h
theorem xis(h:Zp:=by
 rw[yai,yam N]at t;simpa using t):Zp:=h
theorem xit(h:Zp:=by
 go_enter func3,ntmps3;go_wp2;go_ret;exact⟨rfl,hL⟩):Zp:=h
theorem xiu(h:Zp:=by
 refine⟨?_,?_,?_,?_,?_,?_,?_⟩;all_goals first|(go_simp;done)|(simp;done)):Zp:=h
theorem xiv(h:Zp:=by
 clear bi;exact xdy):Zp:=h
theorem xiw(h:Zp:=by
 refine wp_mono h ?_;intro e ag I am;cases e<;>first|exact am|exact am.elim):Zp:=h
theorem xix(h:Zp:=by
 rw[e];go_enter func116,ntmps116;go_wp2;go_ret;exact⟨rfl,rfl⟩):Zp:=h
theorem xiy(h:Zp:=by
 refine(ai.block b xaa xaa).trans ?_;exact f.k0.block b hb hn):Zp:=h
theorem xiz(h:Zp:=by
 rw[hG c];right;exact e _ (jd (by rw[uM xaa];omega)) xaa):Zp:=h
theorem xja(h:Zp:=by
 go_ret;exact⟨_,_,_,by rw[yal];rfl,by rw[HD.o],q.o⟩):Zp:=h
theorem xjb(h:Zp:=by
 go_enter func133,ntmps133;go_wp2;go_ret;exact⟨rfl,rfl⟩):Zp:=h
theorem xjc(h:Zp:=by
 go_wp2;go_ret;exact⟨_,rfl,by rw[a9,show k=10 by omega],ab,_,rfl⟩):Zp:=h
theorem xjd(h:Zp:=by
 rintro e I ⟨rfl,rfl⟩;go_wp2;go_ret;exact⟨_,rfl,rfl,ak,0,rfl⟩):Zp:=h
theorem xje(h:Zp:=by
 cases e;have e:=Y.len;subst e;exact⟨zs,λ_=>⟨b,c,B,a1,Y,a3⟩⟩):Zp:=h
theorem xjf(h:Zp:=by
 go_wp2_with fail;go_meet;exact⟨_,_,r,_,_,_,rfl,rfl,rfl,cO,R2,R3⟩):Zp:=h
theorem xjg(h:Zp:=by
 rw[yai,List.getElem?_eq_none c]at h;cases h):Zp:=h
theorem xjh(h:Zp:=by
 go_enter func98,ntmps98;go_wp2;go_ret;exact⟨rfl,rfl⟩):Zp:=h
theorem xji(h:Zp:=by
 have bA:=hb.o;have ap:=Z.o;have bM:=co.o;constructor<;>omega):Zp:=h
theorem xjj(h:Zp:=by
 clear ah;go_wp2;go_ret;exact⟨hS U.o,Kept.refl _ _ _⟩):Zp:=h
theorem xjk(h:Zp:=by
 clear aK a9 aU bG;go_wp2;go_ret;exact⟨hS U.o,R2.o⟩):Zp:=h
theorem xjl(h:Zp:=by
 intro i hi c;by_cases e:i=k
 ·grind
 exact h.digit i xaa c):Zp:=h
theorem xjm(h:Zp:=by
 unfold inB;rw[HL.o.1,HL.o.2,yay am,Bool.false_and]):Zp:=h
theorem xjn(h:Zp:=by
 rintro e I ⟨rfl,rfl⟩;go_wp2;go_ret;exact⟨rfl,ez _ _ _ _⟩):Zp:=h
theorem xjo(h:Zp:=by
 rw[yau ab,List.mem_append];simp_all):Zp:=h
theorem xjp(h:Zp:=by
 go_wp2_with fail;go_meet;exact⟨_,_,r,_,_,_,rfl,rfl,cO,R2,R3⟩):Zp:=h
theorem xjq(h:Zp:=by
 obtain⟨g,e,B,J,h3⟩:=aq.o ae;exact⟨g,e,B,J.keep aF,h3⟩):Zp:=h
theorem xjr(h:Zp:=by
 rw[yai,yam a9];rfl):Zp:=h
theorem xjs(h:Zp:=by
 rcases K with K|K<;>exact⟨ao,cr,gn WkS aq λz X W au=>WkE⟩):Zp:=h
theorem xjt(h:Zp:=by
 have:=e9.o k cA;exact⟨(fld v k).toNat,by omega,by omega⟩):Zp:=h
theorem xju(h:Zp:=by
 rw[yam N];exact h _ (List.getElem_mem _)):Zp:=h
theorem xjv(h:Zp:=by
 rcases r with⟨c,p⟩|x
 ·exact .err (h c p rfl)
 exact .ok):Zp:=h
theorem qaa(h:Zp:=by
 have J:V _:=Dy.box f C hP an;have cr:=fH C.ys i;have cb:=fH C.ys (ni bs i);have t:V (S.length=vs.length):=by show _=_;rw[<-ar,List.length_map]
 have HSV:V _:=ar;have ap:V _:=N;clear f C an ar N;go_enter func66,ntmps66;go_wp2_with fail;generalize (w.alloc _).alloc _=W0 at J⊢;refine yaj J.o.next ?_;rintro e az ⟨rfl,(O:V _)⟩;clear J;go_wp2_with fail;refine yaj O.o.next ?_;rintro e W2 ⟨rfl,(HD:V _)⟩;clear O;have ae:0<vs.length:=hM t.o
 have s:nv bs (ni bs i)%vs.length<vs.length:=Nat.mod_lt _ ae;have v:(nv bs _:Int).tmod (vs.length:Int)=(nv bs (ni bs i)%vs.length:Nat):=rfl;have F:(nv bs (ni bs i):Int)%vs.length=(nv bs (ni bs i)%vs.length:Nat):=by rw[Int.natCast_emod]
 have p:V (nv bs (ni bs i)%vs.length=nv bs (ni bs i)%S.length):=by show _=_;rw[t.o]
 generalize nv bs _%vs.length=j at s v F p;have cf:¬vs=[]:=λe=>by rw[e]at ae;exact Nat.lt_irrefl _ ae
 exact qab):Zp:=h
theorem qac(h:Zp:=by
 obtain⟨u,an⟩:=GrS.start f C hP;have ax:V _:=u;have aZ:V (Kept P (P+1) w _):=fh an;have aI:V (∀(W:World) (K:Nat) (o m p q r:Int),GrS W R P a n cap K bs w.heap.size (.slice a1 n1 c1) (.slice Y vs.length c2) (.slice a3 n3 c3) ins vs outs->Kept P (P+1) w W->∀az,Kept 0 0 W az->_):=λW K o m p q r S k az aj=>S.put k aj (eL o m p q r) (Nat.zero_lt_succ _) hn;have hj:(nv bs (ni bs i):Int)%(vs.length:Int)=((nv bs (ni bs i)%vs.length:Nat):Int):=by rw[Int.natCast_emod]
 have s:nv bs (ni bs i)%vs.length<vs.length:=Nat.mod_lt _ ae;generalize nv bs (ni bs i)%vs.length=j at hj s aq⊢;have z:V ((nv bs (ni bs i):Int).tmod (vs.length:Int)=j):=(Int.tmod_eq_emod_of_nonneg xaa).trans hj;have cf:¬vs=[]:=λe=>by rw[e]at ae;exact Nat.lt_irrefl _ ae
 have cr:=fH C.ys i;have cb:=fH C.ys (ni bs i);have T:¬(nv bs i:Int)%16=0:=xaa;have ap:V _:=N;have aa:V _:=aq;clear f C u an N hj aq;go_enter func42,ntmps42;go_wp2_with fail;generalize (w.alloc (.cells #[.slice a1 n1 c1,.slice Y vs.length c2,.slice a3 n3 c3] 26)).alloc fj=W0 at ax aZ⊢;refine yaj ax.o.next ?_;rintro e az ⟨rfl,(aU:V _),aj⟩;have aL:=aU.o.bx.q1;have bY:V _:=aZ.o.trans aj;clear aj;go_upto_region 11 with fail;go_region_held3 (λI=>I.cell? ⟨w.heap.size,1,none⟩=some (.slice Y vs.length c2)) (go_keep) (first|(go_at_call 33;refine yaj (aU.o.keep (eF _)).next ?_;rintro e W2 ⟨rfl,t,ah⟩;have aJ:=t.bx.q1));have HK:V (Kept P (P+1) w W2):=bY.o.trans ((fh (eF _)).trans ah);have au:V _:=t;exact qad):Zp:=h
theorem qae(h:Zp:=by
 have cF:V (∀o,((w.alloc (eW bh n1 c1 (some ⟨ap,0,none⟩) T c2 P n3 c3)).alloc fj).frozen? ⟨w.heap.size,o,none⟩=false):=λo=>by simp
 have bw:=fF (w.alloc (eW bh n1 c1 (some ⟨ap,0,none⟩) T c2 P n3 c3));rw[show(w.alloc _).heap.size=w.heap.size+1 by simp]at bw;have HR:V _:=bw;have ff:V _:=zE _ bh P _ n1 c1 _ c2 n3 c3 s x _ (c8.keep cP yaa) ce ar ak bD bX;have fi:V _:=λW k=>qV W _ _ _ _ c1 _ c2 _ c3 _ _ _ (f.keep (cP.trans k)) b1 xaa a9;have fc:V (∀W,Kept 0 0 _ W->_):=λW k=>((c8.keep (cP.trans k) yaa).at_ x ak).c1;have b6:V _:=f.v.len;have ea:V _:=b9;have er:V _:=bX;have cC:V _:=bD;have cd:V _:=bN;have b7:V (SzU 2000 _ _):=⟨hM f.v.len,mX _ (λj hj=>hM (b9 j (by have:=f.v.len;omega))),cN⟩
 have cr:(0:Int)<=x:=xaa;have cb:(x:Int)<T:=xaa;have c9:(0:Int)<=s:=xaa;have cg:(s:Int)<T:=xaa;have d4:((w.alloc (eW bh n1 c1 (some ⟨ap,0,none⟩) T c2 P n3 c3)).alloc fj).heap.size=w.heap.size+1+1:=by simp
 clear bw cP f bN cN b9 bX bD;go_enter func159,ntmps159;go_wp2_with fail;refine yaj ff.o ?_;rintro e aO ⟨A,rfl,aU,fm,aj⟩;rw[d4]at fm;obtain⟨_,a8,aV,p2⟩:=aA.o.keep aj;have eA:=fc.o _ aj;generalize fu:(vs.getD x _).len=b8 at eA;have go:V _:=fu;clear fu fc ff;have aa:V (BR _ A _):=aU;have bY:V _:=aj;clear aU aj;go_wp2_with fail;clear eA;refine yaj (fi.o _ bY.o) ?_;rintro e ag ⟨O,d1,Y,d2,Z,d3,rfl,ch,bO,a5,⟨aL,aJ,bS⟩,ah⟩;have cB:w.heap.size+1+1<=aO.heap.size:=hM bY.o.size
 have HL:V _:=LK.start b6.o aA.o cF.o HR.o (bY.o.trans ah) cB ah.size ch bO a5 aL aJ bS;have bn:V (BR (fw _ _ (.slice O n1 d1) (.slice Y T d2) (.slice Z n3 d3)) A _):=BR.keep (BR.keep aa.o ah yaa) (fg _ w.heap.size _ _ _) (.inr (.inl xaa));have e7:V (Farb w _ _ _ _ _ _ _ A):=⟨fm,λc=>hN ((eH bO c).1) ((BR.lt aa.o)),λc=>hN ((eH ch c).1) ((BR.lt aa.o)),λc=>hN ((eH a5 c).1) ((BR.lt aa.o))⟩
 exact qaf):Zp:=h
theorem qag(h:Zp:=by
 have an:=ez 0 0 w (eW O n1 c1 ax T c2 Z n3 c3);have aS:=ft w (.slice O n1 c1) (.slice ax T c2) (.slice Z n3 c3);have bi:(w.alloc (eW O n1 c1 ax T c2 Z n3 c3)).heap.size=w.heap.size+1:=by simp
 have aj:=ez 0 0 (w.alloc (eW O n1 c1 ax T c2 Z n3 c3)) fj;have C:=fF (w.alloc (eW O n1 c1 ax T c2 Z n3 c3));exact qah):Zp:=h
theorem qai(h:Zp:=by
 have z:V _:=fN W g off m cap ts H.tk H.m5 [43] [45];have ad:V _:=fN W g off m cap ts H.tk H.m5 [42] [47];rw[mK aK]at z ad;have c0:=H.tk.c0 0 xaa;have c1:=H.tk.c1 0 xaa;have c2:=H.tk.c2 0 xaa;have cJ:=H.m5;have aa:=H.mc;have bo:V _:=H.ws;have aX:V _:=H.gd;generalize ts.getD 0 hJ=t at*;clear H aK;obtain⟨aW,X,bF⟩:=t;simp only at ae bw;subst ae;simp only[Nat.zero_mul,Nat.add_zero]at c0 c1 c2;simp only;have ab:=sT bw;have bu:V _:=bw;clear bw;have bC:V (∀W',Kept 0 0 W W'->Calls prog 121 #[hB P,(⟨1,1,0,0,0,oQ bF⟩:Vl).agg,hD X] W' λe aB=>(∃x:Int,e=.returned (hD x))/\V (TrO W P R u1 u2 u3 u4 bs (fV st ⟨1,1,0,0,0,oQ bF⟩ X) e aB)):=λW' ai=>yaj (mB (bo.o.keep ai) aX.o ⟨1,1,0,0,0,oQ bF⟩ ⟨Int.le_refl _,by show(1:Int)<=1000;decide⟩ (Ci bF) X) (λe aB t=>⟨t.ret,TrO.back ai t⟩);obtain⟨r,av⟩:∃r,r=fV st ⟨1,1,0,0,0,oQ bF⟩ X:=⟨_,rfl⟩
 rw[<-av]at bC⊢;clear av bo aX;go_enter func118,ntmps118;go_upto_region 3 with (go_at_call 142;refine yaj z.o ?_;rintro e ag ⟨rfl,an⟩;obtain rfl:=an.symm);go_upto_region 15 with (go_at_call 142;refine yaj ad.o ?_;rintro e ag ⟨rfl,an⟩;obtain rfl:=an.symm);go_upto_region 16 with fail;exact qaj):Zp:=h
theorem qak(h:Zp:=by
 go_enter func118,ntmps118;go_upto_region 3 with (go_at_call 142;refine yaj z.o ?_;rintro e ag ⟨rfl,an⟩;obtain rfl:=an.symm);go_upto_region 15 with (go_at_call 142;refine yaj ad.o ?_;rintro e ag ⟨rfl,an⟩;obtain rfl:=an.symm);go_upto_region 16 with fail;exact qal):Zp:=h
theorem qam(h:Zp:=by
 have aV:V _:=qo bH.o aX Z
 have bz:V (r=.error (3,Y)):=by
  have h:=HR.o;rw[uF Z]at h;exact(hH h).symm
 have bE:V _:=jG bH.o.c5 bH.o.c6 bH.o.fr 3 Y (Mst P u1 u2 u3 u4) (.inl rfl);clear Z HR u bH
 go_wp2_with (first
  |(go_at_call 119;refine yaj aV.o ?_;rintro e ag ⟨ah,rfl,an⟩;obtain rfl:=an.symm;have e0:(0:Int)<=ah:=by omega)
  |(go_at_call 117;refine yaj bE.o ?_;rintro e a7 ⟨rfl,S⟩))
 refine yaz (v:=.tuple #[]) (by simp[results,results70,go_sem]) rfl ?_;rw[bz.o];exact⟨rfl,S.c5,S.c6,(Mv.of HK.o).bad S.chg⟩):Zp:=h
theorem qan(h:Zp:=by
 obtain⟨⟨bF,a9,ba,be,bi,s⟩,b9,bK,aR,g,aS,hn,aa,HO⟩:=H.op O Z m1 e1 m3 af;clear H;unfold PtC;go_enter func164,ntmps164;go_wp2_with fail;rw[aS.o];clear bF a9 ba be bi s aS;exact qao):Zp:=h
theorem qap(h:Zp:=by
 intros;rename_i wc C;obtain⟨c,aB,cap',f,I,aa⟩:=C;obtain⟨_,_,aT,ao,aG,_,_,_,_⟩:=aa.o.g;go_wp2_with fail;refine(MS.lst aa.o xaa (show(c.length:Int)-1=(vs.length:Nat) by have:=f.o.2;omega)).mono ?_;clear aa aT ao aG;rintro e m ⟨rfl,aa⟩;exact qaq):Zp:=h
theorem qar(h:Zp:=by
 obtain⟨b3,hi,a6,b8,b5⟩:=info_parts sc;have hn:=g.n;have bD:V _:=uv g.k Z;have ab:V _:=zM g.len aD;have aj:=ez 0 0 W (fB v.op v.len v.a v.b v.c v.k);have bH:V _:=h.keep aj;have C:V (Mv _ W (Mst P u1 u2 u3 u4) _):=Mv.of aj;have c1:=bH.o.c1;have aZ:V _:=bH.o.r2;have cF:=bH.o.fr 1;have B:=i5 W v;obtain⟨bF,a9,ba,be,bi,s⟩:=B;have ci:(W.alloc (fB v.op v.len v.a v.b v.c v.k)).heap.size=W.heap.size+1:=by simp
 have HR:V (u2.ownBlock≠some P/\u2.ownBlock≠some W.heap.size):=⟨h.np.2.1,λe=>hM ((eH h.r2 e).2)⟩
 have cS:=h.lt;have cr:R<=W.heap.size:=hM h.sz
 have bV:V (fV st v p=if kM _=true then .error _ else .ok _):=rfl;generalize fV _ v p=r at bV⊢;obtain⟨Y,j,b4⟩:=jt h.r2;clear h aj g;subst b4;generalize bw:st.vs.length=aH at*;have bu:V _:=bw;clear bw;go_enter func121,ntmps121;go_wp2_with fail;generalize cB:W.alloc _=aO at c1 aZ bF a9 ba be bi s ci cF bH C⊢;have au:R<=aO.heap.size:=xaa;have aN:P<aO.heap.size:=xaa;have c:W.heap.size<aO.heap.size:=xaa;clear ci cB;exact qas):Zp:=h
theorem qat(h:Zp:=by
 unfold qq;intros;rename_i Z hP;have bV:V _:=@hP;have HD:V _:=h.D;have HSV:V _:=h.hs;have ab:=h.hl;have f:=h.hc;obtain⟨_,bf,aP,aY,B,aj,an⟩:=HD.o.bx;obtain rfl:=Bool.eq_false_iff.2 λq=>absurd (Z.1 q) xaa;clear hP Z;conv=>arg 2;whnf
 exact qau):Zp:=h
theorem qav(h:Zp:=by
 obtain⟨⟨bF,a9,ba,be,bi,s⟩,b9,bK,aR,g,aS,hn,aa,HO⟩:=H.op O Z m1 e1 m3 af;clear H;exact qaw):Zp:=h
theorem qax(h:Zp:=by
 obtain⟨u,an⟩:=GrS.start f C hP;have ax:V _:=u;have aZ:V (Kept P (P+1) w _):=fh an;have aI:V (∀(W:World) (K:Nat) (v:Vl),GrS W R P a n cap K bs w.heap.size (.slice a1 n1 c1) (.slice Y vs.length c2) (.slice a3 n3 c3) ins vs outs->Kept P (P+1) w W->∀az,Kept 0 0 W az->v.k<18446744073709551616->_):=λW K v S k az aj aD=>S.put k aj v aD hn;have cr:=fH C.ys i;have cb:=fH C.ys (ni bs i);have ap:V _:=N;generalize ce:vs.length=T at ax aZ aI hn ap⊢;clear ce;clear f C u an N;go_enter func42,ntmps42;go_wp2_with fail;generalize (w.alloc (.cells #[.slice a1 n1 c1,.slice Y T c2,.slice a3 n3 c3] 26)).alloc fj=W0 at ax aZ⊢;refine yaj ax.o.next ?_;rintro e az ⟨rfl,(au:V _),aj⟩;have HK:V _:=aZ.o.trans aj;clear aj ax aZ;obtain⟨_,bd,aL,aJ,_,_,_⟩:=au.o.bx;exact qay):Zp:=h
theorem qaz(h:Zp:=by
 obtain⟨w,F⟩:=aX.o ao a rfl;have ed:¬((a:Int)<0):=xaa;go_upto_region 7 with (go_at_call 118;refine yaj aj.o ?_;rintro e a7 ⟨rfl,a9,ba,be,bi,aF,G⟩);have b7:V _:=aA.o.keepC G.chg aI.o;obtain⟨bp,cv,e2,bQ,bb⟩:=aF.lenc F;have bu:=b7.o.c0;have aV:=aF.c1;rw[e2]at aV;have bP:V _:=FtI.lit aF G a;have bF:V (gj (λs e=>eO f s u e) st (es.take 1)=some (.ok (ao,[a]))):=HO.o ao a rfl;have b8:V _:=w;have di:V (∀i∈[a],i<ao.vs.length):=by intro i hi;simp at hi;subst hi;exact F
 have bw:=w.g.n;clear aX aj HE HO G aF e2 bQ w bH aT;generalize fe ao a=l at bb;exact qba):Zp:=h
theorem qbb(h:Zp:=by
 have X:Chg _ _ _:=⟨ar.chg.os,ar.chg.tape,ar.chg.output,ar.chg.size,λb hb hn=>ar.chg.block b hb (by rintro (c|c);exact c;exact hn c)⟩
 have aR:(Value.slice Y vs.length c2).ownBlock=some aB\/az.heap.size<=aB:=by
  exact xee
 have N:∀u∈vs++[v],u.k<18446744073709551616:=λu aH=>by
  exact xde
 exact qbc):Zp:=h
theorem qbd(h:Zp:=by
 have f:∀R,R<W.heap.size->U≠some R->R'≠some R:=λR aS C=>by
  rcases aJ.row with e|⟨r,e,av⟩<;>grind
 have bU:∀{b:Option _}{n e:Nat}{xs:List _},W.ownsRow base 3 1 _ n xs->Apart (.slice b n e) _->(∀g,(Value.slice b n e).ownBlock=some g->U≠some g)/\(Value.slice b n e).ownBlock≠some w.heap.size/\Apart (.slice b n e) _:=λal F=>by
  exact xeo
 obtain⟨cB,b0,et⟩:=bU h.i h.a1;obtain⟨ch,bO,a5⟩:=bU h.o h.a3;have j:U≠some (w.heap.size+1):=λc=>by have:=(eH h.g.own (h.g.row.trans c)).1;have:=h.hb;omega
 exact qbe):Zp:=h
theorem qbf(h:Zp:=by
 obtain⟨⟨a9,ba,be,bi,B,J,h3⟩,a0⟩:=h;have aP:∀b,(hC g9 n9 cap9).ownBlock=some b↔g9=b:=λb=>by simp[Value.ownBlock]
 have G:∀b,Mst P a9 ba be bi b->b<W'.heap.size:=λb hb=>by
  exact xgj
 have f:¬Mst P a9 ba be bi g9:=λc=>by
  rcases bv with e|e
  ·exact h3 g9 e c
  ·have:=G g9 c;omega
 have aw:Mv (Mst P u1 u2 u3 u4) W (λb=>Mst P a9 ba be bi b\/(hC g9 n9 cap9).ownBlock=some b) bg:=by
  exact xdv
 exact qbg):Zp:=h
theorem qbh(h:Zp:=by
 have bC:V (∀W' v,Kept 0 0 W W'->(1<=v.len/\v.len<=1000)->v.k<18446744073709551616->Calls _ _ _ _ λe aB=>(∃x:Int,e=.returned _)/\V (TrO W P R _ _ _ _ _ (fV _ v _) e _)):=λW' v ai B J=>yaj (mB (h.keep ai) ak v B J K) (λe aB t=>⟨t.ret,t.back ai⟩);have bm:V (∀W' p,Kept 0 0 W W'->_):=λW' p ai=>jG (h.keep ai).c5 (h.keep ai).c6 (h.keep ai).fr 4 p (Mst P u1 u2 u3 u4) (.inl rfl);exact qbi):Zp:=h
theorem qbj(h:Zp:=by
 go_enter func52,ntmps52;go_wp2_with (first|(go_at_call 51;refine(bJ.o _).mono ?_;rintro e ag ⟨rfl,rfl⟩)|fail);refine(aZ.o _).mono ?_;rintro e a7 ⟨rfl,aM⟩;have c:=P.o.trans aM;have an:=aS.o.keep aM;exact qbk):Zp:=h
theorem qbl(h:Zp:=by
 have ed:¬((a:Int)<0):=xaa;go_upto_region 7 with (go_at_call 118;refine yaj aj.o ?_;rintro e a7 ⟨rfl,a9,ba,be,bi,aF,G⟩);exact qbm):Zp:=h
theorem qbn(h:Zp:=by
 have bc:∀aB,Kept 0 0 W' aB->_:=λaB ah=>
  Q aB P R u1 u2 u3 u4 bs st a6 aS cL u g o ts.length c0 ts ⟨H.ws.keep (ai.trans ah),H.gd,H.nm,H.lc.keep (ai.trans ah),H.ln,H.lo,c2.keep ah,H.tg,hM H.m5,c3,λt ht=>H.ti t (by simp[ht]),λt ht=>H.tn t (by simp[ht])⟩ 2 a F yad ay e1
 have bv:=gz f st u a H.gd H.nm H.lo b4 ay e1;have v:=H.ws.far2 cb;exact qbo):Zp:=h
theorem qbp(h:Zp:=by
 obtain⟨aV,p2,z,l⟩:=h.np;obtain⟨p,C,g,aa,m,q⟩:=h.ap;have aP:∀b,(hC g9 n9 cap9).ownBlock=some b↔g9=b:=λb=>by simp[Value.ownBlock]
 exact qbq):Zp:=h
theorem qbr(h:Zp:=by
 have bw:=fF (w.alloc (eW O n1 c1 ax T c2 Z n3 c3));rw[show(w.alloc _).heap.size=w.heap.size+1 by simp]at bw;exact qbs):Zp:=h
theorem qbt(h:Zp:=by
 go_enter func114,ntmps114;go_upto_region 3 with fail;have bu:V _:=A5 w i;change Code.wp _ _ _ _ ((w.alloc (.cells #[eN _,.int _ (0:Nat),eN _] 92)).alloc (.cells #[eN _,hD _,eN _] 92));generalize (w.alloc _).alloc _=W0 at bu⊢;have c0:=(aI.o _ bu.o.k).at_ i hi;exact qbu):Zp:=h
theorem qbv(h:Zp:=by
 obtain⟨aG,f⟩:=x;obtain⟨B,J,n,h3⟩:=lM g _ _ (by simp_all) a9;have bG:=h3 _ (mC (k:=0) (by rw[J];simp));have f1:=h3 _ (mC (k:=1) (by rw[J];simp));exact qbw):Zp:=h
theorem qbx(h:Zp:=by
 have aT:V _:=ch;clear ch;go_upto_region 4 with (go_at_call 67;refine yaj b1.o ?_;rintro e ag ⟨v,rfl,aU,ah⟩);obtain⟨bn,cr,rfl,ak⟩:=TR.slice aU;exact qby):Zp:=h
theorem qbz(h:Zp:=by
 obtain⟨w,F⟩:=aX.o s a rfl;have ed:¬((a:Int)<0):=xaa;go_upto_region 7 with (go_at_call 118;refine yaj aj.o ?_;rintro e ag ⟨rfl,a9,ba,be,bi,v,a0⟩);have y:V _:=aA.o.keepC a0.chg aI.o;obtain⟨bp,cv,e2,bQ,bb⟩:=v.lenc F;have b6:=v.c1;subst e2;exact qca):Zp:=h
theorem qcb(h:Zp:=by
 have F:V _:=aj;have b1:V _:=bF;have aX:V _:=bv;have cD:V _:=au;obtain⟨r,av⟩:∃r,r=Hs (ts.getD k hJ) ay aW:=⟨_,rfl⟩
 rw[<-av];have HR:V _:=av;clear av H aj bF bv au;go_enter func118,ntmps118;have T:¬((k:Int)<0):=xaa;exact qcc):Zp:=h
theorem qcd(h:Zp:=by
 have aA:V _:=ft w (.slice a1 n1 c1) (.slice Y T c2) (.slice a3 n3 c3);have aI:V _:=f.keep aw;have au:V _:=s.keep aw;have HK:V _:=aw;have b7:V (w.heap.size+1<=(w.alloc (eW a1 n1 c1 Y T c2 a3 n3 c3)).heap.size):=by show _<=_;simp
 exact qce):Zp:=h
theorem qcf(h:Zp:=by
 obtain⟨aV,ay⟩:=au ch;obtain⟨p2,aW⟩:=au bO;obtain⟨z,am⟩:=au a5;have cP:Kept 0 0 w ((w.alloc g).alloc fj):=(ez 0 0 w _).trans (ez 0 0 _ _);have ci:w.heap.size<(fw aO _ _ _ _).heap.size:=yak ai.sz K.size;exact qcg):Zp:=h
theorem qch(h:Zp:=by
 rw[b8,Nat.mul_one,Int.toNat_natCast]at this;exact this):Zp:=h
theorem qci(h:Zp:=by
 go_wp2_with fail;clear a8 aV p2;refine yaj bc.o ?_;rintro e a7 ⟨a1,d1,Y,d2,a3,d3,t,R,rfl,(bZ:V _)⟩;clear bc;go_wp2_with fail;generalize a7.alloc _=bj at bZ⊢;generalize a7.heap.size=b4 at bZ⊢;exact qcj):Zp:=h
theorem qck(h:Zp:=by
 have n:(4:Int)=2\/(4:Int)=3\/(4:Int)=4\/(4:Int)=5\/(4:Int)=7:=xab;have C:(5:Int)=2\/(5:Int)=3\/(5:Int)=4\/(5:Int)=5\/(5:Int)=7:=xab;have a5:(3:Int)=2\/(3:Int)=3\/(3:Int)=4\/(3:Int)=5\/(3:Int)=7:=xab;exact qcl):Zp:=h
theorem qcm(h:Zp:=by
 refine⟨o.1,o.2.imp id ?_⟩;rintro⟨g,cap,H,e1,O,ax,Z⟩;refine⟨g,_,_,e1,O,?_,Z⟩;have aR:g<W.heap.size:=by grind
 exact qcn):Zp:=h
theorem qco(h:Zp:=by
 have aw:V _:=ez 0 0 w (eW a1 n1 c1 Y T c2 a3 n3 c3);have aS:=ft w (.slice a1 n1 c1) (.slice Y T c2) (.slice a3 n3 c3);exact qcp):Zp:=h
theorem qcq(h:Zp:=by
 have aq:=H.tk.len;simp only[yaq,yal,List.length_nil]at aq;have aK:=jk F;have O:=jk hb;have cf:us≠[]:=λc=>by rw[c]at O;simp at O
 have y:=jN F yad;have X:=jN hb yad;have aG:=H.mc;exact qcr):Zp:=h
theorem qcs(h:Zp:=by
 have bu:=List.findIdx_getElem (w:=a9);have hj:S.1.findIdx (f8 · v)<i:=by rw[<-E.l1];exact a9
 have a6:S.1.getD (S.1.findIdx (f8 · v)) hI=S.1[S.1.findIdx _]:=by
  exact xjr
 exact qct):Zp:=h
theorem qcu(h:Zp:=by
 have s:=eP (lo:=bl) (hi:=bl+1) W ⟨bl,i,none⟩ (hD x) yac;have bx:=(ez 0 0 cj o).trans (eK 0 0 _ m);have bD:=ii aR;have C:∀b,cw.ownBlock=some b->_:=λb hb=>(eH f.own hb).1;exact qcv):Zp:=h
theorem qcw(h:Zp:=by
 rw[heap_setCell_same w g k _ _ _ h];simp[List.map_set]):Zp:=h
theorem qcx(h:Zp:=by
 have aK:=t.p;have c:∀X o,R≠X->(W.setCell ⟨R,j,_⟩ u).cell? ⟨X,o,_⟩=W.cell? _:=λX o a5=>eM _ _ _ _ _ _ (.inl a5);obtain⟨bk,bf,aP,aY,bI,bB,bE⟩:=h.b;exact qcy):Zp:=h
theorem qcz(h:Zp:=by
 have own:∀{u:Value}{xs:List _}{m e s:Nat},W'.ownsRow H.heap.size e s u m xs->(∀b,u.ownBlock=some b->b≠Q)->_:=λo h=>fX o ai λb hb=>hM (h b hb)
 exact qda):Zp:=h
theorem qdb(h:Zp:=by
 unfold jc;simp only;go_enter func147,ntmps147;go_upto_region 1 with fail;change Code.wp _ _ _ _ (W.alloc (.cells _ 92));generalize W.alloc _=az at aA HK⊢;exact qdc):Zp:=h
theorem qdd(h:Zp:=by
 obtain⟨bb,aM,aQ,bY,cg,cn⟩:=be;have u:∀o,_:=λo=>HD.o.dg.r2.frozenAt o;have K:(vd _ j).k<18446744073709551616:=HD.o.dg.k _ (iY s);have HK:V _:=K;clear K;obtain⟨_,bd,aL,aJ,_,_,_⟩:=HD.o.bx;exact qde):Zp:=h
theorem qdf(h:Zp:=by
 clear aa;unfold PfK;intros;rename_i wc C;obtain⟨c,aB,cap',f,I,aa⟩:=C;obtain⟨_,_,aT,ao,aG,_,_,_,_⟩:=aa.o.g;go_wp2_with fail;refine(MS.lst aa.o xaa (show(c.length:Int)-1=(vs.length:Nat) by have:=f.o.2;omega)).mono ?_;clear aa aT ao aG;rintro e m ⟨rfl,aa⟩;go_wp2_with fail;exact qdg):Zp:=h
theorem qdh(h:Zp:=by
 intros;rename_i wc C;obtain⟨vs2,aB,cap',p,aA,aa⟩:=C;obtain⟨_,_,aT,ao,aG,_,_,_,_⟩:=aa.o.g;go_wp2_with fail;refine(MS.lst aa.o xaa (show(vs2.length:Int)-1=((vs.length:Nat)+1) by have:=f.o.2;have:=p.o.2;omega)).mono ?_;clear aa aT ao aG;rintro e m ⟨rfl,aa⟩;exact qdi):Zp:=h
theorem qdj(h:Zp:=by
 have aM:=be.c1;rw[show(vs.getD j hI).len=m from aa.o]at aM;rw[z.o];clear t ah be z cb aL aU bY ax aZ bp T aa;first|(have av:(nv bs i:Int)%16=14:=hM ap.o)|(have av:(nv bs i:Int)%16=15:=hM ap.o)
 clear ap;obtain⟨_,bd,aL,aJ,_,_,_⟩:=au.o.bx;go_wp2_with fail;refine yaj (au.o.pick hn _) ?_;rintro e bj ⟨rfl,h,ca⟩;replace HK:V _:=HK.o.trans ca;replace au:V _:=h;clear h ca bd aL aJ aM;go_wp2_with fail;refine yaj au.o.next ?_;rintro e ci ⟨rfl,v,bS⟩;replace HK:V _:=HK.o.trans bS;replace au:V _:=v;clear v bS;have l:=c6.o;exact qdk):Zp:=h
theorem qdl(h:Zp:=by
 subst aq;obtain⟨q,am,aF,k⟩:∃q:Nat,q<5/\(c:Int)/8%5=(q:Int)/\c/8%5=q:=⟨c/8%5,by omega,by omega,rfl⟩
 rw[k,show((base+d/8%6:Nat):Int)=(base:Int)+d/8%6 by omega]at bV;have l:(q:Int)<5:=xaa;have cz:(base:Int)<=100:=xaa;have r:(d:Int)<256:=xaa;have aa:(c:Int)<256:=xaa;have cX:=PK W 3 am;generalize ([2,3,4,5,7]:List Int).getD q 0=o at bV cX;have g:=HD.o.keep (ez 0 0 W (.cells #[hD 2,hD 3,hD 4,hD 5,hD 7] 3));clear HD k h;have HD:V _:=g;clear g;have bT:¬(c:Int)%8=0:=xaa;have n1:¬(c:Int)%8=1:=xaa;have T:¬(c:Int)%8=2:=xaa;have p:(c:Int)%8<6:=xaa;exact qdm):Zp:=h
theorem qdn(h:Zp:=by
 have b9:∀j,j<T->_:=λj hj=>ir (List.all_eq_true.1 bN j (List.mem_range.2 hj));have bX:∀j,j<T->∀k,k<cnt _->_:=λj hj=>mI (List.all_eq_true.1 bN j (List.mem_range.2 hj));have bD:∀j,j<T->_:=λj hj=>Bi (List.all_eq_true.1 bN j (List.mem_range.2 hj));have cP:Kept 0 0 w ((w.alloc (eW bh n1 c1 (some ⟨ap,0,none⟩) T c2 P n3 c3)).alloc fj):=(ez 0 0 w _).trans (ez 0 0 _ _);have aA:V _:=(ft w (.slice bh n1 c1) (hC ap T c2) (.slice P n3 c3)).keep (ez 0 0 _ fj);exact qae):Zp:=h
theorem qdo(h:Zp:=by
 change Code.wp _ _ _ _ (W.alloc (.cells #[eN [110,97,109,101],hD X,eN bF] 92));have aA:V _:=iq W [110,97,109,101] X bF;have HK:V _:=ez 0 0 W (.cells #[eN [110,97,109,101],hD X,eN bF] 92);generalize W.alloc (.cells #[eN [110,97,109,101],hD X,eN bF] 92)=az at aA HK⊢;have b7:V _:=HK.o.size;generalize ch:W.heap.size=aR at aA⊢;have bn:V _:=ch;clear ch;obtain⟨bH,O,ax⟩:az.cell? ⟨aR,0,none⟩=some (eN [110,97,109,101])/\az.cell? ⟨aR,1,none⟩=some (hD X)/\az.cell? ⟨aR,2,none⟩=some (eN bF):=⟨aA.o.c0,aA.o.c1,aA.o.c2⟩
 exact qdp):Zp:=h
theorem qdq(h:Zp:=by
 go_upto_region 45 with (go_at_call 143;refine yaj Z.o ?_;rintro e bj ⟨cW,dp,rfl,aM,aQ,bY,cg,al,bn,cz⟩);obtain⟨bp,cv,e2,bQ,bb⟩:=al.lenc ae;obtain⟨ar,of,af,ce,ah,cx⟩:=cz.at_ xac;subst e2 af;have ad:V _:=ay.o.trans bn;have aW:V _:=aA.o.keepC ad.o.chg aI.o;exact qdr):Zp:=h
theorem qds(h:Zp:=by
 have aM:=be.c1;rw[show(vs.getD j hI).len=m from aa.o]at aM;rw[z.o];clear t ah be z cb aL aU bY ax aZ bp T aa;exact qdt):Zp:=h
theorem qdu(h:Zp:=by
 obtain⟨_,bm,ay,aW,bG,f1,f2⟩:=bz.o;go_wp2_with fail;obtain⟨bb,aM,aQ⟩:=eZ ag (w.heap.size+1) _ _ _ bm ay aW (.slice O n1 c1) (.slice ax T c2) (.slice Z n3 c3);have K:=fg ag (w.heap.size+1) (.slice O n1 c1) (.slice ax T c2) (.slice Z n3 c3);exact qdv):Zp:=h
theorem qdw(h:Zp:=by
 generalize W.heap.size=aR at aA aI⊢;obtain⟨bm,cD,ds,d0⟩:=mO _ es st U bU.o 0 (by rw[ax.o];decide) st [] rfl;obtain⟨o,bT,c0,aT,cb⟩:=m.o.call 0 (by rw[ax.o];decide);obtain⟨dv,cG⟩:=cb st bm az u1 u2 u3 u4 (Gw.refl co.o) cD (bo.o.keep HK.o) (Mv.of HK.o);rw[<-m.o.cell (Mv.of HK.o).chg 0]at aT;have HE:V _:=ds;have HO:V _:=d0;have aX:V _:=dv;have aj:V _:=cG;have bH:=aA.o.c0;clear cD ds d0 dv cG cb;exact qdx):Zp:=h
theorem qdy(h:Zp:=by
 have aA:V _:=iq W bv Y Q;have HK:V _:=ez 0 0 W (.cells #[eN bv,hD Y,eN Q] 92);generalize W.alloc _=az at aA HK⊢;generalize W.heap.size=aR at aA aM⊢;have bH:V _:=u.o.ws.keep HK.o;have O:=aA.o.c1;have ax:=aA.o.c2;exact qdz):Zp:=h
theorem qea(h:Zp:=by
 clear a8 aV p2;obtain⟨_,a8,aV,p2⟩:=aA.o.keep (bY.o.trans ah);have bG:=((bY.o.trans ah).frozen aA.o.sz xaa).trans (cF.o 0);have f1:=((bY.o.trans ah).frozen aA.o.sz xaa).trans (cF.o 1);have f2:=((bY.o.trans ah).frozen aA.o.sz xaa).trans (cF.o 2);have Q:=BR.cell bn.o s (by rw[oN,b6.o];exact ar);rw[F]at Q;unfold fw at Q HL bn;clear ch bO a5 aL aJ bS ah fi aA cF HR aa bY d4;exact qeb):Zp:=h
theorem qec(h:Zp:=by
 rw[al]at aZ⊢;obtain⟨bl,rfl,cb,b0,bP⟩:=aZ.at_ xac;obtain⟨o,c0,c1,c2,c3⟩:=bP 0 xac;obtain⟨j,T,af,c2',U⟩:=bP 1 xac;exact qed):Zp:=h
theorem qee(h:Zp:=by
 obtain⟨⟨bF,a9,ba,be,bi,s⟩,b9,bK,aR,g,aS,hn,aa,HO⟩:=H.op O Z m1 e1 m3 af;clear H;unfold MvC;go_enter func165,ntmps165;go_wp2_with fail;rw[aS.o];clear bF a9 ba be bi s aS;refine fx (x6 aa xaa ?_);clear aa;unfold MfK;exact qap):Zp:=h
theorem qef(h:Zp:=by
 have bU:∀{u:Value}{e s n:Nat}{xs:List _},W.ownsRow R e s u n xs->Apart u _->Apart u _:=λal F k N aD=>by
  exact xeb
 exact qeg):Zp:=h
theorem qeh(h:Zp:=by
 have cu:=f.v.len;have cH:=f.o.len;have cK:=f.i.len;have cc:n1<=20:=xaa;have ce:T<=2000:=xaa;have cS:n3<=50:=xaa;have bL:V (∀j,j<T->_):=λj hj=>aD j xaa;exact qei):Zp:=h
theorem qej(h:Zp:=by
 rw[mK aK]at z ad;have c0:=H.tk.c0 0 xaa;have c1:=H.tk.c1 0 xaa;have c2:=H.tk.c2 0 xaa;have cJ:=H.m5;have aa:=H.mc;exact qek):Zp:=h
theorem qel(h:Zp:=by
 have cG:¬((v:Int)<0):=xaa;go_upto_region 6 with (go_at_call 145;refine yaj f.o ?_;rintro e ag ⟨rfl,ah⟩);have bD:V _:=HK.o.trans ah;have ck:V _:=aA.o.keep ah;have aT:=ax.o ag bD.o;have aj:V _:=i.o ⟨v,rfl⟩ ag bD.o;clear f aA HK ah bH ao aG Q cf ax i;exact qem):Zp:=h
theorem qen(h:Zp:=by
 go_enter func165,ntmps165;go_wp2_with fail;rw[aS.o];clear bF a9 ba be bi s aS;exact qeo):Zp:=h
theorem qep(h:Zp:=by
 have aX:V (bA<w.heap.size/\ap<w.heap.size/\bM<w.heap.size/\bA≠ap/\bA≠bM/\ap≠bM):=⟨hP.i.lt,hP.v.lt,hP.o.lt,hP.d12,hP.d13,hP.d23⟩
 exact qeq):Zp:=h
theorem qer(h:Zp:=by
 have bN:=h;have e1:=f.i.len;have e2:=f.v.len;have af:=f.o.len;unfold okG at bN;simp only[Bool.and_eq_true,decide_eq_true_eq,e1,e2,af]at bN;obtain⟨⟨b1,ce,a9⟩,_,aD,al,_⟩:=bN;have bL:V _:=aD;have HO:V _:=al;exact qes):Zp:=h
theorem qet(h:Zp:=by
 have K:=fg aO w.heap.size (.slice O n1 d1) (.slice Y T d2) (.slice Z n3 d3);have ai:=bv.keep k;obtain⟨bb,aM,aQ⟩:=eZ _ _ _ _ _ ai.q0 ai.q1 ai.q2 (.slice O n1 d1) (.slice Y T d2) (.slice Z n3 d3);exact qeu):Zp:=h
theorem qev(h:Zp:=by
 have aw:=ez 0 0 w (eW a1 n1 c1 (some ⟨ap,bO,none⟩) T c2 a3 n3 c3);obtain⟨bc,e1,e2,af,e4,bo⟩:=be.keep aR aw yaa;exact qew):Zp:=h
theorem qex(h:Zp:=by
 have f1:=f.keep k;refine(se _ _ _ _ _ _ _ _ _ _ _ v f1.dg.r2 f1.dg.sz xaa).mono ?_;rintro e ag ⟨aB,cap',rfl,aZ,ar⟩;exact qbb):Zp:=h
theorem qey(h:Zp:=by
 go_enter func158,ntmps158;go_upto_region 1 with fail;change Code.wp _ _ _ _ (W.alloc (.cells _ 92));generalize W.alloc _=az at aA HK⊢;generalize W.heap.size=aR at aA⊢;exact qez):Zp:=h
theorem qfa(h:Zp:=by
 clear HR aX cD cQ bJ aF G O X ap ak bx aw;obtain⟨K,J⟩:∃K,ts.getD k hJ=K:=⟨_,rfl⟩
 have aI:V _:=J;rw[J]at c1 d1 Z bz;clear J;obtain⟨aP,s,a5⟩:=K;exact qfb):Zp:=h
theorem qfc(h:Zp:=by
 have af:(S.1++[rnm S.2 (vs.getD i hI)]).getD i hI=rnm S.2 (vs.getD i hI):=by
  exact xem
 exact qfd):Zp:=h
theorem qfe(h:Zp:=by
 have bc:=ez 0 0 w (eW none 0 0 none 0 0 none 0 0);have b1:V _:=qp (f.keep bc) xaa aG;have HL:V ((jC t).length<=4000):=by show _<=_;have:=qM t;have:=f.len;omega
 exact qff):Zp:=h
theorem qfg(h:Zp:=by
 have bZ:=ez 0 0 wr (fB (vs.getD k hI).op (vs.getD k hI).len (vs.getD k hI).a (vs.getD k hI).b (vs.getD k hI).c (vs.getD k hI).k);exact qfh):Zp:=h
theorem qfi(h:Zp:=by
 have l:(1:Int)+(nv bs (ni bs (ni bs (ni bs i))):Int)%4=((1+nv bs (ni bs (ni bs (ni bs i)))%4:Nat):Int):=xaa;have F:=fH C.ys (ni bs (ni bs (ni bs i)));exact qfj):Zp:=h
theorem qfk(h:Zp:=by
 obtain⟨a4,bV,I⟩:=jH bH.o.r4;subst I;go_upto_region 2 with (go_at_call 119;refine yaj aV.o ?_;rintro e ag ⟨i,rfl,bp,an⟩;obtain rfl:=an.symm);exact qfl):Zp:=h
theorem qfm(h:Zp:=by
 have bu:=y.o.c0;have d1:=y.o.c1;have bw:=w.g.n;generalize fe s a=l at bb bC;generalize s.vs.length=aH at*;clear v a0 aj aA HR aX w bH aT;exact qfn):Zp:=h
theorem qfo(h:Zp:=by
 have aa:V _:=aP;clear aP HL;go_upto_region 7 with (go_at_call 68;refine yaj x.o ?_;rintro e a7 ⟨rfl,aF⟩);have bR:V _:=bD.o.trans aF;exact qfp):Zp:=h
theorem qfq(h:Zp:=by
 have c9:V (∀W' aB,Kept 0 0 bj W'->Chg (Mst P aM (hC bp Q.vs.length cv) bY cg) W' aB->aB.cell? ⟨aR,1,none⟩=some (hD K)/\aB.cell? ⟨ar,of,none⟩=some (hD (j:Nat))/\aB.cell? ⟨ar,of+1,none⟩=some (hD (n:Nat))):=λW' aB ai bK=>by
  exact xdz
 have bw:=ab.g.n;have d4:=ab.g.lenB ae;have c6:V _:=ab.g;have dg:V _:=al;have d5:V _:=cj;exact qfr):Zp:=h
theorem qfs(h:Zp:=by
 refine fx (x8 aa xaa ?_);clear aa;unfold PfK;intros;rename_i wc C;obtain⟨vs2,aB,cap',p,aA,aa⟩:=C;obtain⟨_,_,aT,ao,aG,_,_,_,_⟩:=aa.o.g;go_wp2_with fail;refine(MS.lst aa.o xaa (show(vs2.length:Int)-1=((vs.length:Nat)+1) by have:=f.o.2;have:=p.o.2;omega)).mono ?_;clear aa aT ao aG;rintro e m ⟨rfl,aa⟩;go_wp2_with fail;exact qft):Zp:=h
theorem qfu(h:Zp:=by
 have aG:=H.mc;have cJ:=H.m5;have aX:bs.length<=100000:=by rw[H.ws.nl];have:=H.gd.m;omega
 have c0:=H.tk.c0 0 xaa;have bT:=H.tk.c0 1 xaa;have n1:=H.tk.c1 1 xaa;have T:=H.tk.c2 1 xaa;exact qfv):Zp:=h
theorem qfw(h:Zp:=by
 have aV:V _:=qn bH.o aX Z;have HFn:V _:=Z;clear Z;go_upto_region 23 with (go_at_call 119;refine yaj aV.o ?_;rintro e ag ⟨rfl,an⟩;obtain rfl:=an.symm);clear aV;exact qfx):Zp:=h
theorem qfy(h:Zp:=by
 have d1:=cy.o.c1;clear ap a5 bx HR cu bD v N bU m co;obtain⟨q,am⟩:∃q,q=jZ s xs K:=⟨_,rfl⟩
 have bZ:V _:=am;rw[<-am]at Z an;clear am;rw[aq.o]at Z⊢;exact qfz):Zp:=h
theorem qga(h:Zp:=by
 have aq:=H.tk.len;simp only[yaq,yal,List.length_nil]at aq;have aK:=jk F;have y:=jN F yad;have aG:=H.mc;have b4:=jz F (λt ht=>H.ti t (by simp[ht])) a xac;exact qgb):Zp:=h
theorem qgc(h:Zp:=by
 obtain⟨xs,aj⟩:=al.o;have bn:V _:=aj;rw[<-aj]at ag aq;have HD:V _:=ag;clear a5 ag aj al;generalize ab:xs.length=l at HD aq;have ao:V _:=ab;have cx:=aq.o;have aH:l<=2000:=xaa;have af:V _:=cx;clear ab;have ah:=ax.o;obtain⟨_,bd,aL,aJ,_,_,_⟩:=HD.o.bx;exact qgd):Zp:=h
theorem qge(h:Zp:=by
 rw[bi]at C;have aA:V _:=aS.keep aj;have HR:V _:=C;have HK:V _:=an.trans aj;have aX:V (bA<w.heap.size/\ap<w.heap.size/\bM<w.heap.size):=⟨hP.i.lt,hP.v.lt,hP.o.lt⟩
 have cu:=hP.v.len;obtain⟨_,_,aD,_,_⟩:=fW bN;exact qgf):Zp:=h
theorem qgg(h:Zp:=by
 obtain⟨aW,X,bF⟩:=t;simp only at ae;subst ae;have aX:((m:Int)==1)=false:=yax xaa;simp only[Nat.zero_mul,Nat.add_zero]at c0 c1 c2;exact qak):Zp:=h
theorem qgh(h:Zp:=by
 have c6:V (∀(X cz cw:Value) (o:Nat),(((wr.setCell _ X).setCell _ cz).setCell _ cw).drew.cell? _=wr.cell? ⟨_,o,_⟩):=λX cz cw o=>mi _ _ _ _ X cz cw gr;have ei:V _:=HL.o.a4;have R1:V _:=HL.o.fin (eF _);exact qgi):Zp:=h
theorem qgj(h:Zp:=by
 obtain⟨_,bf,aP,aY,_,_,_⟩:=T.o.bx;obtain⟨_,bm,ay,aW,bv,bA,bM⟩:=T.o.rs;go_wp2_with fail;obtain⟨a8,aV,p2⟩:=eZ _ _ _ _ _ bm ay aW (.slice a1 ins.length c1) (hC g vs.length c2) (hC g9 n9 cap9);exact qgk):Zp:=h
theorem qgl(h:Zp:=by
 rw[<-av];have HR:V _:=av;clear av h ak aa C cA;unfold jc;simp only;go_enter func148,ntmps148;go_upto_region 2 with fail;exact qgm):Zp:=h
theorem qgn(h:Zp:=by
 rw[b8]at aq bh;rw[bi]at C;have aA:V _:=(aS.keep aj).keep ah;have HR:V _:=C.keep ah;have bV:V _:=hP.keep ((an.trans aj).trans ah);have HK:V _:=(an.trans aj).trans ah;have b1:V _:=bh;exact qgo):Zp:=h
theorem qgp(h:Zp:=by
 have z:V _:=fN W g off m cap ts H.tk H.m5 [43] [45];have ad:V _:=fN W g off m cap ts H.tk H.m5 [42] [47];exact qej):Zp:=h
theorem qgq(h:Zp:=by
 obtain⟨b9,fq,c6,eT,d5⟩:=info_parts qz;obtain⟨⟨ck,cz,cA⟩,_,aD,al,_⟩:=fW bN;exact qeh):Zp:=h
theorem qgr(h:Zp:=by
 obtain⟨j,rfl⟩:∃j:Nat,A=j:=⟨A.toNat,by omega⟩
 rw[show fJ (j:Int) n1=true from decide_eq_true aU,Bool.true_and,Int.toNat_natCast];have hj:j<n1:=xaa;exact qgs):Zp:=h
theorem qgt(h:Zp:=by
 have bH:=aA.o.c0;go_upto_region 3 with (go_at_call 120;refine yaj (bW.o _) ?_;rintro e ag ⟨rfl,ah⟩);have bD:V _:=HK.o.trans ah;have y:V _:=aA.o.keep ah;exact qgu):Zp:=h
theorem qgv(h:Zp:=by
 rw[J]at bO;have bD:V _:=ah;clear ah bn;go_wp2_with fail;clear bd aL aJ;refine yaj bO.o ?_;rintro e a7 ⟨rfl,d3⟩;have aF:=Kept.trans bD.o (d3.kept 0 0);exact qgw):Zp:=h
theorem qgx(h:Zp:=by
 have cM:V (wr.heap.size<(wr.alloc (fB v.op v.len v.a v.b v.c v.k)).heap.size):=by show _<_;simp
 exact qgy):Zp:=h
theorem qgz(h:Zp:=by
 have c6:¬((y:Int)<0):=xaa;go_upto_region 11 with (go_at_call 118;refine yaj cQ.o ?_;rintro e a7 ⟨rfl,aN,a2,bk,bq,aF,G⟩);have O:=bJ.o.trans G;exact qha):Zp:=h
theorem qhb(h:Zp:=by
 obtain⟨w,F⟩:=aX.o ⟨v,rfl⟩ s a rfl;have ak:=yak (bI.o v rfl) w.n;exact qbl):Zp:=h
theorem qhc(h:Zp:=by
 have u:V _:=H;have aM:V _:=H.ws.far;obtain⟨bv,Y,Q⟩:=n;simp only[Nat.zero_mul,Nat.add_zero,Nat.one_mul]at c0 bT n1 T;simp only[iQ]at h;have HR:V _:=h;exact qhd):Zp:=h
theorem qhe(h:Zp:=by
 clear bb cx al bn cz aU Z ay aZ ce ah bQ cj d1 cy ad aq an aA bZ bz;go_quiet (fail)
 have ag:V _:=eK 0 0 bj nq;have bX:V _:=aO.o _ ag.o;exact qhf):Zp:=h
theorem qhg(h:Zp:=by
 have cu:V (U=.ok (s,xs)):=by
  exact xev
 obtain⟨cF,eb,aN,a2,bk,bq,rfl,ap,(ay:V _),a5⟩:=bx.o.xs;have Z:V _:=zN ap v.o.g cF xs.length eb xs a5 (by rw[aq.o];decide) N.o K;have cy:V _:=aA.o.keepC ay.o.chg aI.o;exact qhh):Zp:=h
theorem qhi(h:Zp:=by
 have ch:=cl.o.lt;have aY:=cl.o.c2;have aZ:V _:=C.r4;have bn:V _:=C;have cM:bs.length<=5000:=hO C.nl bD.m
 clear C;subst e4;generalize bw:bs.length=aH at*;have bu:V _:=bw;clear bw;exact qhj):Zp:=h
theorem qhk(h:Zp:=by
 go_wp2_with fail;clear a8 aV p2 aS;generalize (w.alloc (eW O n1 c1 ax T c2 Z n3 c3)).alloc fj=aO at aA HR HK bo⊢;refine yaj bo.o ?_;rintro e ag ⟨rfl,(f:V _),(bF:V _)⟩;exact qhl):Zp:=h
theorem qhm(h:Zp:=by
 obtain⟨aw,cU⟩:=cK.o _ _ rfl;have ej:¬((Y:Int)<0):=xaa;have b9:V _:=cP.o _ _ rfl;have cM:V _:=v.o.trans aw
 have cd:V (∀i∈xs++[Y],i<aG.vs.length):=by
  exact xcw
 exact qhn):Zp:=h
theorem qho(h:Zp:=by
 have cT:=tV (by rw[hn];decide) (by rw[hn];decide) (by rw[hn];decide);have al:=AV y ad cT
 have aH:ts++c::[n]=((k::l::(ts++[c,n,q])).drop 2).take (m-1-2):=by
  exact xez
 exact qhp):Zp:=h
theorem qhq(h:Zp:=by
 have aI:V _:=h.far;have bo:V _:=h;have co:V _:=ak;have m:V _:=aa;have bU:V _:=C;have ax:V _:=cA;exact qhr):Zp:=h
theorem qhs(h:Zp:=by
 go_enter func70,ntmps70;go_upto_region 20 with fail;go_upto_region 21 with fail;change Code.wp _ _ _ _ (W.alloc (.cells #[eN _,.int _ Y,eN _] 92));exact qdy):Zp:=h
theorem qht(h:Zp:=by
 have cj:¬Mst P aM (hC bp Q.vs.length cv) bY cg aR:=λc=>(ad.o.new aR c).elim aI.o (λc=>hM aA.o.lt);have cB:V _:=(Mv.of (M:=Mst P u1 u2 u3 u4) HK.o).trans ad.o;exact qhu):Zp:=h
theorem qhv(h:Zp:=by
 have an:V _:=λQ S (aD:jZ s xs K=.ok (Q,S))=>lM v.o.g xs K N.o aD;exact qfy):Zp:=h
