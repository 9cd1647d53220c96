import Derived.BigQuiet
import Derived.Deep.AppendLies
import Derived.Deep.AppendSrc
import Derived.Deep.DeepCutAuto
import Derived.Deep.DrawnRows
import Derived.Deep.Draws
import Derived.Deep.LoopGhost
import Derived.Deep.Quiet
import Derived.Deep.QuietTactic
import Derived.Deep.RegionHeld3
import Derived.Deep.RegionLaw
import Derived.Deep.RegionWith
import Derived.Deep.Slices
import Derived.DeepKeys4
import Derived.Laws.BytesArg
import Derived.Laws.Cover3
import Derived.Laws.FloatArith
import Derived.Laws.OwnMore
import Derived.Lib.ConvBytes
import Derived.LoopIn
import Derived.LoopNIn
import Derived.Maps.OwnOps
import Derived.Maps.OwnSet
import Derived.OpenShut
import Derived.OwnWalkIn
import Derived.ProofKit
import Derived.RangeFuncBound
import Derived.RangeFuncCalls
import Derived.RangeFuncLeaves
import Derived.RangeFuncNested
import Derived.Shelf.Abstract
import Derived.Shelf.RegionOpen
import Derived.StillTail
import Derived.TacticsInMore
import Derived.WalkKit
import Derived.WalkLawsBesides
import Derived.WalkSpells
namespace Go.Proofs.Z
variable{Zp:Prop}
def V(p:Prop):Prop:=p
theorem V.o{p}(h:V p):p:=h
theorem hU{p q:Prop}(h:q)(g:q->p:=by intro x;rw[x];rfl):p:=g h
theorem hT{p q:Prop}(h:q)(g:q->p:=by intro x;rw[x];omega):p:=g h
theorem hS{p q r:Prop}(h:q)(k:r)(g:q->r->p:=by intro x y;rw[<-x];exact y):p:=g h k
theorem hR{p q r:Prop}(h:q)(k:r)(g:q->r->p:=by intro x y;rw[x];exact y):p:=g h k
theorem hQ{p q r:Prop}(h:q)(k:r)(g:q->r->p:=by intro _ _;omega):p:=g h k
theorem hO{p q:Prop}(h:q)(g:q->p:=by intro _;omega):p:=g h
theorem hJ{α:Type _}{a b:α}(h:some a=some b):a=b:=Option.some.inj h
theorem hI{c:Prop}{d:Decidable c}(h:c){α:Sort _}{t e:α}:ite c t e=t:=if_pos h
theorem hG{c:Prop}{d:Decidable c}(h:¬c){α:Sort _}{t e:α}:ite c t e=e:=if_neg h
open Go.RowKit
theorem yaa{A B}{n:Nat}:A∨B∨n≤n:=.inr (.inr (Nat.le_refl _))
theorem yab{A}{n:Nat}:A∨n≤n:=.inr (Nat.le_refl _)
theorem yac{A n}:(n≤n∧n<n+1)∨A:=.inl ⟨Nat.le_refl _,Nat.lt_succ_self _⟩
theorem yad{n:Nat}:n≤n:=Nat.le_refl _
theorem yae{n}:n<n+1:=Nat.lt_succ_self _
theorem yaf(h:Zp:=by simp;omega):Zp:=h
theorem yag(h:Zp:=by show(0:Nat)<18446744073709551616;decide):Zp:=h
theorem yah.{u}{α:Type u}{l:List α}{i a}:l.getD i a=l[i]?.getD a:=List.getD_eq_getElem?_getD
theorem yai{P f args w R R'}(h:Calls P f args w R)(g:∀e w',R e w'→R' e w'):Calls P f args w R':=h.mono g
theorem yaj{n m k:Nat}(h:n<m)(g:m≤k):n<k:=Nat.lt_of_lt_of_le h g
theorem yak.{u}{α:Type u}{s t:List α}:(s++t).length=s.length+t.length:=List.length_append
theorem yal.{u}{α:Type u}{l:List α}{i}(h:i<l.length):l[i]?=some l[i]:=List.getElem?_eq_getElem h
theorem yam.{u}{α:Type u}[BEq α][LawfulBEq α]{a b:α}(h:a≠b):(a==b)=false:=beq_eq_false_iff_ne.2 h
theorem yan{n m k:Nat}(h:n≤m)(g:m≤k):n≤k:=Nat.le_trans h g
theorem yao.{u}{α:Type u}{i}{l:List α}(h:l.length≤i):l.take i=l:=List.take_of_length_le h
theorem yap.{u}{α:Type u}{a}{s:List α}:(a::s).length=s.length+1:=rfl
theorem yaq{a b:ByteArray}:(a++b).size=a.size+b.size:=ByteArray.size_append
theorem yar.{u}{α:Type u}{l r:List α}{i}(h:l.length≤i):(l++r)[i]?=r[i-l.length]?:=List.getElem?_append_right h
theorem yas.{u}{α:Type u}{l r:List α}{i}(h:i<l.length):(l++r)[i]?=l[i]?:=List.getElem?_append_left h
theorem yat.{u}{α:Type u}{i}{l:List α}(h):l.take (i+1)=l.take i++[l[i]]:=List.take_succ_eq_append_getElem h
theorem yau(w:World)(c t i):(w.alloc (.cells c t)).cell? ⟨w.heap.size,i,none⟩=c[i]?:=World.cell?_alloc_new w c t i
theorem yav(w:World)(b e s):w.ownsRow b e s (.slice none 0 0) 0 []:=World.ownsRow_nil w b e s
theorem yaw.{u}{α:Type u}[BEq α][LawfulBEq α]{a b:α}(h:a≠b):(a==b)=false:=beq_false_of_ne h
theorem yax{p}[Decidable p](h:¬p):decide p=false:=decide_eq_false h
theorem yay{P fn R a w v}(h:Sem.run P (results fn a.tmps) w=.ok v w)(g:a.defers=[])(k:R (.returned v) w):bodyPost P fn R .ret a w:=bodyPost_ret h g k
open Go.RowKit
abbrev hD(b:Nat):Value:=.pointer (some ⟨b,0,none⟩)
abbrev hE(b n c:Nat):Value:=.slice (some ⟨b,0,none⟩) n c
abbrev hF(x:Int):Value:=.int .i64 x
theorem xaa(h:Zp:=by omega):Zp:=h
theorem xab(h:Zp:=by decide):Zp:=h
theorem xac(h:Zp:=by simp):Zp:=h
theorem xad(h:Zp:=by
 conv=>arg 2;whnf
 go_region_with (first
  |(go_at_call 37;refine yai (bg.o _ ((eG W).trans am)) ?_;rintro e ag ⟨aA,cap',rfl,⟨u0,bo⟩,⟨u1,az⟩,⟨u2,aZ⟩,ai,_,ar⟩;have bl:=ai 0;have bG:=ai 1;have bP:=ai 2;clear ai)
  |(go_at_call 39;refine yai (gS _ _ _ _ _ _) ?_;rintro e aG ⟨rfl,am⟩;have bi:=(MS.keep ae.o ((eG W).trans am)).g.c0;have a5:=(MS.keep ae.o ((eG W).trans am)).g.c1;have p2:=(MS.keep ae.o ((eG W).trans am)).g.c2))
 all_goals exact HK _ ⟨_,_,_,⟨rfl,by simp⟩,by simp,ar⟩):Zp:=h
theorem xae(h:Zp:=by
 have aW:=ae.o.g.c0;have aq:=ae.o.g.c1;have aN:=ae.o.g.c2;exact xad):Zp:=h
theorem xaf(h:Zp:=by
 have aw:=mP n w xaa;have aU:=iF w n (λk=>c (xs.getD k 0) (bc.getD k 0));generalize t:w.alloc (.cells (madeCells #[.float .f64 0] n) 38)=aG at aw aU;clear t;have bh:V (∀k,k<n->w.cell? ⟨bZ,ak+k,none⟩=some (.float .f64 (xs.getD k 0))):=H;have Q:V (∀x∈xs,x<18446744073709551616):=bN;clear H bN;have C1:V (∀k,k<n->w.cell? ⟨bG,bV+k,none⟩=some (.float .f64 (bc.getD k 0))):=am;have f:V (∀x∈bc,x<18446744073709551616):=bJ;clear am bJ;go_enter func85,ntmps85;go_wp2_with fail;clear aw;go_loopw [8,9,15] (λ_ _ i W=>∃k:Nat,k<=n/\i=hF k/\Making w.heap.size n k (λk=>c (xs.getD k 0) (bc.getD k 0)) w W) (λ_ _ i _=>n-(intOf i).toNat)
 case atStart=>exact⟨0,Nat.zero_le _,rfl,aU⟩
 case round=>
  exact xah):Zp:=h
theorem xag(h:Zp:=by
 unfold MfC;intros;rename_i HK;have aW:=ae.o.g.c0;have aq:=ae.o.g.c1;have aN:=ae.o.g.c2;obtain⟨_,bf,aO,aX,bI,bL,bM⟩:=ae.o.b;have aF:V (∀W:World,_):=λW=>je W N Z ad m1 af vs.length cap m3 aj xaa;rw[bB]at aF;clear bB;conv=>arg 2;whnf
 go_region_with (first
  |(go_at_call 40;refine yai (aF.o _) ?_;rintro e a8 ⟨rfl,aJ⟩;clear bf aO aX bI bL bM;obtain⟨⟨_,_,a7,aK,aP,_,_,_,_⟩,⟨_,bf,aO,aX,bI,bL,bM⟩,_,_,_,_,_⟩:=MS.keep ae.o ((eG W).trans aJ)))
 all_goals
  obtain⟨bd,aR,aV⟩:=fg a8 (w.heap.size+1) _ _ _ bf aO aX (.slice N m1 af) (.slice Z vs.length cap) (.slice ad m3 aj)
  exact HK _ ⟨bd,aR,aV,⟨a8,(eG W).trans aJ,rfl⟩⟩):Zp:=h
theorem xah(h:Zp:=by
 obtain⟨k,O,rfl,C⟩:=hrel;clear aU;by_cases aB:k<n
 ·exact xak
 obtain rfl:k=n:=xaa;go_wp2;go_ret;exact C.done):Zp:=h
theorem xai(h:Zp:=by
 have bg:V _:=kH ((aL.o _ S.o.k).cut (i:=i) m.o.2) (cap-i);have aw:=m.o.1;have bR:(0:Int)<=i:=xaa;have aS:(i:Int)<=j:=xaa;have bb:(j:Int)<=cap:=hO m.o.2
 have af:((j:Int)-i).toNat=j-i:=xaa;have aV:=S.o.t.c2;have bY:=S.o.t.fr 2;have ak:=bg.o;go_upto_region 25 with fail;change Code.wp _ _ _ _ (wr.setCell _ (eO _));have l:V _:=S.o.text (kY t i j);clear bg ak aV bY aw bR aS bb af;generalize wr.setCell _ _=ay at l⊢;generalize ap:kY t i j=x at l;have bu:V _:=ap;clear ap;obtain⟨_,bo,az,aZ,ai⟩:=l.o.r;obtain⟨_,bf,aO,aX,r⟩:=l.o.t;have bl:=ai 0;have bG:=ai 1;have bP:=ai 2;have R:V _:=l.o.fin;clear ai r l;go_wp2_with fail;change bodyPost _ _ _ _ _ (((ay.setCell _ (eO _)).setCell _ _).setCell _ (eO x));generalize ((ay.setCell _ _).setCell _ _).setCell _ _=cf at R⊢;obtain⟨⟨_,bH,f1,f2,_⟩,H⟩:=R.o;refine yay (v:=.tuple #[.agg #[eO iE,hF i,eO x],hF j]) (by simp[results,results99,go_sem,bH,f1,f2]) rfl ⟨?_,H⟩;rw[aY.o.1,aY.o.2,bu.o];rfl):Zp:=h
theorem xaj(h:Zp:=by
 clear ae;unfold PfK;intros;rename_i wc C;obtain⟨p,aA,cap',n,J,ae⟩:=C;go_wp2_with fail;refine fH (kO ae xaa (show(p.length:Int)-1=(vs.length:Nat) by have:=n.o.2;omega) ?_);unfold PfK;intros;rename_i aF C;obtain⟨bd,aR,aV,HR⟩:=C;go_wp2_with fail;exact yay (by simp[results,results162,go_sem,bd,aR,aV]) rfl (MS.finPR ae.o HR.o (by rw[n.o.1]<;>simp))):Zp:=h
theorem xak(h:Zp:=by
 obtain⟨av,aL⟩:=C.cell aB;have m1:=C.free;have bw:=eQ C.kept a9 (bh.o k aB);have bg:V _:=fC Q.o k;have d1:=eQ C.kept N (C1.o k aB);have af:V _:=fC f.o k;have ao:V (∀z,fb z=fb (c (xs.getD k 0) (bc.getD k 0))->fb z=fb ((λk=>c (xs.getD k 0) (bc.getD k 0)) k)):=λ_ h=>h;generalize xs.getD k 0=x at bw bg ao;generalize bc.getD k 0=y at d1 af ao;go_wp2_with fail;refine(bx _ _ _ bg.o af.o).mono ?_;exact xau):Zp:=h
theorem xal(h:Zp:=by
 go_enter func107,ntmps107
 go_wp2_with ((first
  |(go_at_call 108;refine(A.2 _ _ au).mono ?_)
  |(go_at_call 32;refine(nxS au.o).mono ?_)
  |(go_at_call 145;refine(I.2 _ _ au).mono ?_)
  |(go_at_call 63;refine((D _).2 _ _ au).mono ?_));rintro e aG ⟨rfl,aU⟩;clear au;have au:V _:=aU;clear aU)
 go_ret;exact⟨rfl,au.o⟩):Zp:=h
theorem xam(h:Zp:=by
 obtain⟨aS,bb,bq,bD,az,aw,bQ⟩:=bl.o.ex;have bU:Mv (Mst P u1 u2 u3 u4) ay (Mst P aS bb bq bD) wr:=⟨aw.chg,λb hb=>aw.new b (.inl hb)⟩
 obtain⟨c6,cS,cU,cV⟩:=mL _ es st R aD.o k (hR af.o aB) s xs ar.o;obtain⟨o,Y,c1,y,cX⟩:=ag.o.call k (hR af.o aB);obtain⟨cr,cT⟩:=cX s c6 wr aS bb bq bD v.o cS az ((Mv.of HK.o).trans bU);rw[<-ag.o.cell ((Mv.of HK.o).trans bU).chg k]at y;have cM:V _:=cU;have cR:V _:=cV;have cN:V _:=cr;have ct:V _:=cT;have aP:V _:=aw;have cl:V _:=bQ;have cP:V _:=(Mv.of (M:=Mst P u1 u2 u3 u4) HK.o).trans bU;clear cS cU cV cr cT cX az aw bQ bU;rcases c6 with⟨c,p⟩|⟨aN,Z⟩
 ·exact xcr
 exact xaz):Zp:=h
theorem xan(h:Zp:=by
 have ah:=a5.o;generalize Lib.bytesWorld _ 5 _=W2 at o bV C;generalize wr.heap.size=ad at o bV;generalize grownCap _ _ 0 5=bT at o;go_upto_region 12 with (go_at_call 61;refine yai (ri _ _ _ _ _ bV.o xaa) ?_;rintro e bj ⟨b6,c,rfl,q,aY⟩);have aA:V _:=(ar.o.trans C.o).trans (aY.kept 0 0);have av:=ak.o _ (C.o.trans (aY.kept 0 0));rcases u.o with⟨s,au⟩|⟨l,aH⟩
 ·exact xgm
 exact xat):Zp:=h
theorem xao(h:Zp:=by
 go_wp2;go_roundw;exact⟨k+1,by omega,by go_num,R.o⟩;simp[intOf];omega):Zp:=h
theorem xap(h:Zp:=by
 intro e ag aw;obtain⟨zs,rfl,(Y:V _),(ai:V _),(t:V _),(u:V _),(v:V _)⟩:=aw;go_wp2;go_ret;exact Made.kres ⟨zs,rfl,Y.o,ai.o,t.o,u.o,v.o⟩ F.o HE.o):Zp:=h
theorem xaq(h:Zp:=by
 rw[show fp 11 len C P X l=false by rw[Bool.eq_false_iff];intro ba;simp[fp,eR,cnt,lenB,fN]at ba;omega];exact xar):Zp:=h
theorem xar(h:Zp:=by
 clear br;go_enter func44,ntmps44;go_wp2_with (first|(go_at_call 67;refine(fX _ _ xaa xaa).mono ?_;rintro e ag ⟨rfl,rfl⟩;simp only[show fL 11=false from rfl])|(go_at_call 42;refine(e8 _ _ xaa xaa).mono ?_;rintro e ag ⟨rfl,rfl⟩;simp only[show iw 11=1 from rfl]));go_ret;exact⟨rfl,rfl⟩):Zp:=h
theorem xas(h:Zp:=by
 have z:=ae.o.v.c3;exact xad):Zp:=h
theorem xat(h:Zp:=by
 have ao:c=b2/\c≠0:=by
  exact xet
 have ab:(c !=0)=true:=by unfold bne;rw[yaw ao.2];rfl
 have H:V _:=bX.o.trans aA.o;obtain⟨bZ,bG,aC,fr⟩:=bk.o _ H.o;have bH:=fr 0;have f1:=fr 1;have f2:=fr 2
 have aq:(((bj.drew.setCell ⟨bI,0,none⟩ (.slice none 0 0)).setCell ⟨bI,1,none⟩ (.slice none 0 0)).setCell ⟨bI,2,none⟩ (.slice none 0 0)).cell? ⟨aX,i*3+1,none⟩=some (hF aT):=by
  exact xje
 obtain⟨bd,aR,aV⟩:=fg _ _ _ _ _ bZ bG aC (.slice none 0 0) (.slice none 0 0) (.slice none 0 0);have bR:(bj.setCell ⟨_,0,_⟩ _).cell? _=some (.slice none 0 0):=fR _ _ _ _ _ bZ;have aS:((bj.setCell ⟨bI,0,_⟩ (.slice none 0 0)).setCell _ _).cell? _=some (.slice none 0 0):=fR _ _ _ _ _ ((eN _ _ _ _ _ _ (.inr xaa)).trans bG);have R:V (Kept 0 0 w (((bj.drew.setCell _ (.slice none 0 0)).setCell _ (.slice none 0 0)).setCell _ (.slice none 0 0))):=zU ((HK.o.trans H.o).trans (eG _)) (Nat.le_of_eq bc.o) _ _ _;have cq:V _:=p.o l;have r:V _:=ao.1;clear ao aH q l u bV C o aY a7 aK aP fr bk;go_upto_region 13 with fail;go_region
 all_goals (
  go_wp2_with fail
  refine yay (v:=.tuple #[vF,hF c,hF aT]) (by simp[results,results34,go_sem,bR,aS,aV]) rfl ?_
  rw[<-bq.o,cq.o,<-r.o]
  exact⟨rfl,R.o⟩)):Zp:=h
theorem xau(h:Zp:=by
 rintro e ag ⟨z,rfl,bz,r,aY⟩;have ar:=C.drawn aY;obtain⟨ba,s⟩:=ar.cell aB;have m3:=ar.free;have R:V _:=ar.step yad bz (ao.o z r) aB;clear C ar aY r;exact xao):Zp:=h
theorem xav(h:Zp:=by
 clear bv a6 aU j m g r;exact xao):Zp:=h
theorem xaw(h:Zp:=by
 intro v' be bv a6 _;have R:V _:=Grow.step s j m g x aI U.o bv a6;exact xav):Zp:=h
theorem xax(h:Zp:=by
 obtain⟨⟨av,ba,bc,z,aa,ap⟩,b8,Q,bj,B,aT,hn,ae,HO⟩:=H.op N ad m1 af m3 aj;clear H;unfold MvC;go_enter func163,ntmps163;go_wp2_with fail;rw[aT.o];clear av ba bc z aa ap aT;refine fH (E9 ae xaa ?_);clear ae;unfold MfK;intros;rename_i wc C;obtain⟨p,aA,cap',n,J,ae⟩:=C;obtain⟨_,_,aW,aq,aN,_,_,_,_⟩:=ae.o.g;go_wp2_with fail;refine(MS.lst ae.o xaa (show(p.length:Int)-1=(vs.length:Nat) by have:=n.o.2;omega)).mono ?_;clear ae aW aq aN;rintro e K ⟨rfl,ae⟩;obtain⟨_,_,aW,aq,aN,_,_,_,_⟩:=ae.o.g;go_wp2_with fail;refine(MS.orX ae.o _ _ xaa).mono ?_;clear ae aW aq aN;rintro e ag ⟨vs2,x,v,h,u,c8,r,aw,rfl,⟨_,bo⟩,⟨_,az⟩,⟨_,aZ⟩,bl,bG,bP,aY,ae⟩;go_wp2_with fail;rw[aY.o];clear aY bo az aZ bl bG bP;obtain⟨_,_,aW,aq,aN,_,_,_,_⟩:=ae.o.g;go_wp2_with fail;refine(MS.orX ae.o _ _ xaa).mono ?_;clear ae aW aq aN;rintro e ag ⟨t,R,O,P,I,c8,q,ah,rfl,⟨_,bo⟩,⟨_,az⟩,⟨_,aZ⟩,bl,bG,bP,aY,ae⟩;go_wp2_with fail;rw[aY.o];clear aY bo az aZ bl bG bP;refine fH (wJ ae xaa ?_);clear ae;unfold MfK;intros;rename_i wc C;obtain⟨j,aA,cap',s,bq,ae⟩:=C;go_wp2_with fail;have b3:=Ff xaa xaa n.o.1 r.o q.o s.o.1;exact no_implicit_lambda% xbz):Zp:=h
theorem xay(h:Zp:=by
 obtain⟨k,O,rfl,bn⟩:=hrel;by_cases q:k<15
 ·exact xci
 exact xcp):Zp:=h
theorem xaz(h:Zp:=by
 obtain⟨bm,cW⟩:=cN.o aN Z rfl;have ep:¬((Z:Int)<0):=xaa;have cB:V _:=cR.o aN Z rfl;have cO:V _:=v.o.trans bm
 have c9:V (∀i∈xs++[Z],i<aN.vs.length):=by
  exact xdr
 go_upto_region 41 with (go_at_call 103;refine yai ct.o ?_;rintro e bj ⟨rfl,aR,aV,bY,ce,ax,a6⟩);have HFn:V _:=FtI.step aP.o cl.o bl.o.row ax a6;have cK:V (ay.heap.size<=bj.heap.size):=by show _<=_;have:=aP.o.chg.size;have:=a6.chg.size;omega
 have cQ:V _:=cO.o.m;have b7:(bj.alloc (.cells #[hF Z] 3)).cell? ⟨bj.heap.size,0,none⟩=some (hF Z):=by rw[yau];rfl
 have aZ:=ez 0 0 bj (.cells #[hF Z] 3);have bH:V _:=HFn.o.keep aZ;clear HFn bl aP cl cP cN ct cM cR y ax a6 v O ar bm;go_wp2_with (first|(at_builtin;refine jK _ rfl _ _ rfl ay.heap.size _ xs rfl bH.o.row ⟨bj.heap.size,0,none⟩ Z rfl b7 ?c2 ?c3 ?_)|fail)
 case c2=>have:=aG.o;omega
 case c3=>have:=cK.o;simp;omega
 intro g9 cap9 n9 be bO b1 bV b6;have R1:V _:=FtI.app (st:=aN) (bp.o.keep HK.o) cQ.o bH.o b1 bV (b6.imp id (λe=>by rw[e];simp));exact xdm):Zp:=h
theorem xba(h:Zp:=by
 clear ae;unfold MfK;intros;rename_i wc C;obtain⟨p,aA,cap',n,J,ae⟩:=C;obtain⟨_,_,aW,aq,aN,_,_,_,_⟩:=ae.o.g;go_wp2_with fail;refine(MS.lst ae.o xaa (show(p.length:Int)-1=(vs.length:Nat) by have:=n.o.2;omega)).mono ?_;clear ae aW aq aN;rintro e K ⟨rfl,ae⟩;have av:=ae.o.v.c0;have h:(0:Int)<=(vs.length:Nat):=xaa;obtain⟨_,_,aW,aq,aN,_,_,_,_⟩:=ae.o.g;obtain⟨_,bf,aO,aX,bI,bL,bM⟩:=ae.o.b;go_wp2_with fail;obtain⟨bd,aR,aV⟩:=fg _ _ _ _ _ bf aO aX (.slice N m1 af) (hE aA p.length cap') (.slice ad m3 aj);exact yay (by simp[results,results163,go_sem,bd,aR,aV]) rfl (MS.fin ae.o hN (by rw[n.o.1]<;>simp))):Zp:=h
theorem xbb(h:Zp:=by
 have aw:=mP n w xaa;have aU:=iF w n (λk=>c (xs.getD k 0));generalize t:w.alloc (.cells (madeCells #[.float .f64 0] n) 38)=aG at aw aU;clear t;have bh:V (∀k,k<n->w.cell? ⟨bZ,ak+k,none⟩=some (.float .f64 (xs.getD k 0))):=H;have Q:V (∀x∈xs,x<18446744073709551616):=bN;clear H bN;go_enter func90,ntmps90;go_wp2_with fail;clear aw;go_loopw [6,7,13] (λ_ _ i W=>∃k:Nat,k<=n/\i=hF k/\Making w.heap.size n k (λk=>c (xs.getD k 0)) w W) (λ_ _ i _=>n-(intOf i).toNat)
 case atStart=>exact⟨0,Nat.zero_le _,rfl,aU⟩
 case round=>
  exact xch):Zp:=h
theorem xbc(h:Zp:=by
 go_upto_region 31 with fail;obtain⟨_,bf,aO,aX,_,_,_⟩:=ag.o.bx;obtain⟨_,bo,az,aZ,bl,bG,bP⟩:=ag.o.rs;go_wp2_with fail;obtain⟨bi,a5,p2⟩:=fg _ _ _ _ _ bo az aZ (.slice a1 ins.length c1) (hE g vs.length c2) (.slice a3 outs.length c3);exact yay (v:=eX a1 ins.length c1 (some ⟨g,0,none⟩) vs.length c2 a3 outs.length c3) (by simp[results,results58,go_sem,bi,a5,p2]) rfl ar.o):Zp:=h
theorem xbd(h:Zp:=by
 refine⟨⟨#[102,105,108,108,40]⟩++aq++⟨#[44,32]⟩++aN++⟨#[41]⟩,Q,gD (by simp only[yaq,gu,yap,List.length_nil];omega) xab λz X W au=>?_⟩;repeat (rw[yaq]at z;refine sz2 z ?_;clear z;intro _ z)
 exact xal):Zp:=h
theorem xbe(h:Zp:=by
 obtain⟨⟨av,ba,bc,z,aa,ap⟩,b8,Q,bj,B,aT,hn,ae,HO⟩:=H.op N ad m1 af m3 aj;clear H;unfold MvC;go_enter func163,ntmps163;go_wp2_with fail;rw[aT.o];clear av ba bc z aa ap aT;obtain⟨_,_,aW,aq,aN,_,_,_,_⟩:=ae.o.g;refine(MS.orX ae.o _ _ xaa).mono ?_;clear ae aW aq aN;rintro e ag ⟨p,F,s,R,j,c8,n,J,rfl,⟨_,bo⟩,⟨_,az⟩,⟨_,aZ⟩,bl,bG,bP,aY,ae⟩;go_wp2_with fail;rw[aY.o];clear aY bo az aZ bl bG bP;obtain⟨_,_,aW,aq,aN,_,_,_,_⟩:=ae.o.g;go_wp2_with fail;refine(MS.orX ae.o _ _ xaa).mono ?_;clear ae aW aq aN;rintro e ag ⟨vs2,x,v,h,u,c8,r,aw,rfl,⟨_,bo⟩,⟨_,az⟩,⟨_,aZ⟩,bl,bG,bP,aY,ae⟩;go_wp2_with fail;rw[aY.o];clear aY bo az aZ bl bG bP;refine fH (wJ ae xaa ?_);clear ae;unfold MfK;intros;rename_i wc C;obtain⟨t,aA,cap',q,ah,ae⟩:=C;go_wp2_with fail;have b3:=Fe xaa xaa n.o r.o q.o.1;exact no_implicit_lambda% xbz):Zp:=h
theorem xbf(h:Zp:=by
 intros;rename_i HK;have bg:V (∀ay,Kept 0 0 W ay->_):=λay k=>MS.call ae.o k (eK 5 G bK f 0) xaa;have aW:=ae.o.g.c0;have aq:=ae.o.g.c1;have aN:=ae.o.g.c2;have z:=ae.o.v.c3;have aF:V (∀W:World,_):=λW=>je W N Z ad m1 af vs.length cap m3 aj xaa;rw[bB]at aF;clear bB;conv=>arg 2;whnf
 go_region_with (first
  |(go_at_call 37;refine yai (bg.o _ (((eG W).trans p).trans am)) ?_;rintro e ag ⟨aA,cap',rfl,⟨u0,bo⟩,⟨u1,az⟩,⟨u2,aZ⟩,ai,_,ar⟩;have bl:=ai 0;have bG:=ai 1;have bP:=ai 2;clear ai)
  |(go_at_call 40;refine yai (aF.o _) ?_;rintro e K ⟨rfl,p⟩;have bN:=(MS.keep ae.o ((eG W).trans p)).g.c0;have bJ:=(MS.keep ae.o ((eG W).trans p)).g.c1;have b5:=(MS.keep ae.o ((eG W).trans p)).g.c2;have bq:=(MS.keep ae.o ((eG W).trans p)).v.c3)
  |(go_at_call 39;refine yai (gS _ _ _ _ _ _) ?_;rintro e aG ⟨rfl,am⟩;have bi:=(MS.keep ae.o (((eG W).trans p).trans am)).g.c0;have a5:=(MS.keep ae.o (((eG W).trans p).trans am)).g.c1;have p2:=(MS.keep ae.o (((eG W).trans p).trans am)).g.c2))
 all_goals exact HK _ ⟨_,_,_,⟨rfl,by simp⟩,by simp,ar⟩):Zp:=h
theorem xbg(h:Zp:=by
 obtain rfl:k=n:=xaa;have R:V _:=bp.done B F.o;clear bp r;go_wp2;go_ret;exact R.o):Zp:=h
theorem xbh(h:Zp:=by
 go_upto_region 24 with fail;clear c1;exact xai):Zp:=h
theorem xbi(h:Zp:=by
 generalize W.heap.size=bI at aH⊢;have a9:=aH.o.c0;clear c0 c1 c2 C af;go_upto_region 22 with fail;have aD:=aH.o.c2;have G:=Lib.run_convert_string_bytes (P:=prog) ay 9 22 5 ⟨bv.toArray⟩ underlying9 underlying22 underlying5;have bV:V _:=qL ay 5 bv;have bN:V _:=nf ay 5 ⟨bv.toArray⟩;have b4:(⟨bv.toArray⟩:ByteArray).size=bv.length:=rfl;rw[b4]at G;have o:(convert 9 22 (eO bv)).run prog ay=_:=G;clear G b4;generalize Lib.bytesWorld ay 5 ⟨bv.toArray⟩=W2 at o bV bN;generalize ay.heap.size=ad at o bV;generalize grownCap ay bv.length 0 5=bT at o;go_upto_region 23 with (go_at_call 61;refine yai (ri W2 _ _ _ _ bV.o xaa) ?_;rintro e bj ⟨f,c,rfl,q,aY⟩);obtain⟨rfl,rfl⟩:=rz bw.o q;have bU:V _:=bN.o.trans (aY.kept 0 0);have N:=(aH.o.keep bU.o).c1;have b8:V _:=ak.o bj (HK.o.trans bU.o);clear ak bV bN o aY q a9 aD aH bU HK bw;generalize oz bv=j at b8;go_wp2_with (go_at_call 106;refine yai b8.o ?_;rintro e bF ⟨⟨x,rfl⟩,bh⟩);go_ret;exact bh.o):Zp:=h
theorem xbj(h:Zp:=by
 have bg:V _:=kH ((aL.o _ K.o.k).cut (i:=i) m.o.2) (cap-i);have aw:=m.o.1;have bR:(0:Int)<=i:=xaa;have aS:(i:Int)<=k:=xaa;have bb:(k:Int)<=cap:=hO m.o.2
 have af:((k:Int)-i).toNat=k-i:=xaa;have aV:=K.o.t.c2;have bY:=K.o.t.fr 2;have ak:=bg.o;go_upto_region 25 with fail;change Code.wp _ _ _ _ (wr.setCell _ (eO _));have l:V _:=K.o.text (kY t i k);clear bg ak aV bY aw bR aS bb af;generalize wr.setCell _ _=ay at l⊢;generalize ap:kY t i k=x at l;have bu:V _:=ap;clear ap;obtain⟨_,bo,az,aZ,ai⟩:=l.o.r;obtain⟨_,bf,aO,aX,r⟩:=l.o.t;have bl:=ai 0;have bG:=ai 1;have bP:=ai 2;have R:V _:=l.o.fin;clear ai r l;go_wp2_with fail;change bodyPost _ _ _ _ _ (((ay.setCell _ (eO _)).setCell _ _).setCell _ (eO x));generalize ((ay.setCell _ _).setCell _ _).setCell _ _=cf at R⊢;obtain⟨⟨_,bH,f1,f2,_⟩,H⟩:=R.o;refine yay (v:=.tuple #[.agg #[eO kZ,hF i,eO x],hF k]) (by simp[results,results99,go_sem,bH,f1,f2]) rfl ⟨?_,H⟩;rw[aY.o.1,aY.o.2,bu.o];rfl):Zp:=h
theorem xbk(h:Zp:=by
 clear a7 aK;exact xap):Zp:=h
theorem xbl(h:Zp:=by
 clear br;go_enter func44,ntmps44;go_wp2_with (first|(go_at_call 67;refine(fX _ _ xaa xaa).mono ?_;rintro e ag ⟨rfl,rfl⟩;simp only[show fL 12=false from rfl])|(go_at_call 42;refine(e8 _ _ xaa xaa).mono ?_;rintro e ag ⟨rfl,rfl⟩;simp only[show iw 12=1 from rfl]));go_ret;exact⟨rfl,rfl⟩):Zp:=h
theorem xbm(h:Zp:=by
 clear br;go_enter func44,ntmps44;go_wp2_with (first|(go_at_call 67;refine(fX _ _ xaa xaa).mono ?_;rintro e ag ⟨rfl,rfl⟩;simp only[show fL 9=false from rfl])|(go_at_call 42;refine(e8 _ _ xaa xaa).mono ?_;rintro e ag ⟨rfl,rfl⟩;simp only[show iw 9=1 from rfl]));go_ret;exact⟨rfl,rfl⟩):Zp:=h
theorem xbn(h:Zp:=by
 go_enter func44,ntmps44;go_wp2_with (first|(go_at_call 67;refine(fX _ _ xaa xaa).mono ?_;rintro e ag ⟨rfl,rfl⟩;simp only[show fL 8=true from rfl])|(go_at_call 42;refine(e8 _ _ xaa xaa).mono ?_;rintro e ag ⟨rfl,rfl⟩;simp only[show iw 8=3 from rfl]));go_ret;exact⟨rfl,rfl⟩):Zp:=h
theorem xbo(h:Zp:=by
 go_region_law (fail)
 all_goals
  generalize (W2.setCell ⟨g,_,_⟩ _).drew=b8 at ag ar⊢
  obtain⟨_,bf,aO,aX,_,_,_⟩:=ag.o.bx
  obtain⟨_,bo,az,aZ,bl,bG,bP⟩:=ag.o.rs
  go_wp2_with fail
  obtain⟨bi,a5,p2⟩:=fg _ _ _ _ _ bo az aZ (.slice a1 ins.length c1) (hE g vs.length c2) (.slice a3 outs.length c3)
  exact yay (v:=eX a1 ins.length c1 (some ⟨g,0,none⟩) vs.length c2 a3 outs.length c3) (by simp[results,results58,go_sem,bi,a5,p2]) rfl ar.o):Zp:=h
theorem xbp(h:Zp:=by
 refine⟨aq,Q,gD xaa xab λz X W au=>?_⟩;repeat (rw[yaq]at z;refine sz2 z ?_;clear z;intro _ z)
 exact xal):Zp:=h
theorem xbq(h:Zp:=by
 obtain⟨⟨av,ba,bc,z,aa,ap⟩,b8,Q,bj,B,aT,hn,ae,HO⟩:=H.op N ad m1 af m3 aj;clear H;unfold MvC;go_enter func163,ntmps163;go_wp2_with fail;rw[aT.o];clear av ba bc z aa ap aT;refine fH (wI ae xaa ?_);exact no_implicit_lambda% xba):Zp:=h
theorem xbr(h:Zp:=by
 go_wp2_with fail;exact xbw):Zp:=h
theorem xbs(h:Zp:=by
 rw[show fp 12 len C P X l=false by rw[Bool.eq_false_iff];intro ba;simp[fp,eR,cnt,lenB,fN]at ba;omega];exact xbl):Zp:=h
theorem xbt(h:Zp:=by
 clear ae;unfold PfK;intros;rename_i wc C;obtain⟨t,aA,cap',q,ah,ae⟩:=C;go_wp2_with fail;refine fH (kO ae xaa (show(t.length:Int)-1=((vs.length:Nat)+2) by have:=n.o.2;have:=r.o.2;have:=q.o.2;omega) ?_);unfold PfK;intros;rename_i aF C;obtain⟨bd,aR,aV,HR⟩:=C;go_wp2_with fail;exact yay (by simp[results,results162,go_sem,bd,aR,aV]) rfl (MS.finPR ae.o HR.o (by rw[q.o.1,r.o.1,n.o.1]<;>simp))):Zp:=h
theorem xbu(h:Zp:=by
 rw[show fp 9 len C P X l=false by rw[Bool.eq_false_iff];intro ba;simp[fp,eR,cnt,lenB]at ba;omega];exact xbm):Zp:=h
theorem xbv(h:Zp:=by
 obtain⟨⟨av,ba,bc,z,aa,ap⟩,b8,Q,bj,B,aT,hn,ae,HO⟩:=H.op N ad m1 af m3 aj;clear H;unfold MvC;go_enter func163,ntmps163;go_wp2_with fail;exact yay (by simp[results,results163,go_sem]) rfl (sf HO.o (((ez 0 0 w _).trans (ez 0 0 _ _)).trans (ez 0 0 _ _)) _)):Zp:=h
theorem xbw(h:Zp:=by
 obtain⟨_,a7,aK,aP,_,_,_⟩:=au.o.bx;have ak:=bg.o;go_region_with (first|(go_at_call 37;refine yai (aL.o _ _ _ _ _ _ _ G.o bH.o _ aJ) ?_;rintro e aG ⟨aA,cap',rfl,a8,aH⟩;obtain⟨_,bo,az,aZ,bl,bG,bP⟩:=a8)|(go_at_call 39;refine yai (gS _ _ _ _ _ _) ?_;rintro e aF ⟨rfl,aJ⟩;obtain⟨_,aW,aq,aN,_,_,_⟩:=(G.o.keep aJ).bx)|(go_at_call 32;refine yai (au.o.keep (eG _)).next ?_;rintro e bv ⟨rfl,(G:V _),cb⟩;have bH:V _:=HK.o.trans ((ft (eG _)).trans cb);obtain⟨_,bR,aS,bb,_,_,_⟩:=G.o.bx;clear cb))
 all_goals
  go_wp2_with fail
  obtain⟨bf,aO,aX⟩:=fg aG (w.heap.size+1) _ _ _ bo az aZ (.slice a1 Y c1) (hE aA (vs.length+1) cap') (.slice a3 aa c3)
  exact yay (v:=eX a1 Y c1 (some ⟨aA,0,none⟩) (vs.length+1) cap' a3 aa c3) (by simp[results,results41,go_sem,bf,aO,aX]) rfl aH):Zp:=h
theorem xbx(h:Zp:=by
 unfold MfK;intros;rename_i aF C;obtain⟨bd,aR,aV,HR⟩:=C;go_wp2_with fail;exact yay (by simp[results,results163,go_sem,bd,aR,aV]) rfl (MS.finR ae.o HR.o (by rw[n.o.1]<;>simp))):Zp:=h
theorem xby(h:Zp:=by
 have B:=h.keep k;refine(rN _ _ _ _ _ _ _ _ _ _ _ u B.g.own B.g.sz hn).mono ?_;rintro e ag ⟨aA,cap',rfl,own,s⟩;rw[h.g.row]at s;have hb:=s.chg.block _ B.g.lt (by rintro (c|c);exact c;exact h.g.ne c);have e:∀o,_:=λo=>World.cell?_of_block (a:=⟨w.heap.size,o,none⟩) hb;have j:∀o,_:=λo=>World.frozen?_of_block (a:=⟨w.heap.size,o,none⟩) hb;have ah:(vs++[u]).length=vs.length+1:=by simp
 have au:=h.step (vs2:=vs++[u]) (a2':=some ⟨aA,0,none⟩) (cap':=cap') (l:=W.heap.size) (h':=W.heap.size) k (by rw[ah];exact own) (R':=some aA) rfl s ((Kept.refl 0 0 ag).mono λ_ _ c=>by omega) yad (λg _=>by omega);rw[ah]at au;exact⟨_,_,rfl,⟨_,(e 0).trans B.g.c0⟩,⟨_,(e 1).trans B.g.c1⟩,⟨_,(e 2).trans B.g.c2⟩,λo=>by rw[j];exact B.g.free o,au⟩):Zp:=h
theorem xbz(h:Zp:=by
 have HE:V _:=b3;clear b3;refine fH (wH ae xaa (HE.o.2) ?_);unfold MfK;intros;rename_i aF C;obtain⟨bd,aR,aV,HR⟩:=C;go_wp2_with fail;exact yay (by simp[results,results163,go_sem,bd,aR,aV]) rfl (MS.finR ae.o HR.o HE.o.1)):Zp:=h
theorem xca(h:Zp:=by
 intros;rename_i HK;have bg:V (∀ay,Kept 0 0 W ay->_):=λay k=>MS.call ae.o k (eK 3 G g f 0) xaa;have aW:=ae.o.g.c0;have aq:=ae.o.g.c1;have aN:=ae.o.g.c2;have bc:=ae.o.v.c2;exact xas):Zp:=h
theorem xcb(h:Zp:=by
 go_region_with (first
  |(go_at_call 37;refine yai (aL.o _ ((eG _).trans bT)) ?_;rintro e aG ⟨us,aA,cap',rfl,cy,a8,aH⟩;obtain⟨_,bo,az,aZ,bl,bG,bP⟩:=a8)
  |(go_at_call 39;refine yai (gS _ _ _ _ _ _) ?_;rintro e bN ⟨rfl,bT⟩;obtain⟨_,a7,aK,aP,_,_,_⟩:=(HD.o.keep ((eG _).trans bT)).bx))
 all_goals exact aQ.o (L2.of HSV.o cy.o aH)):Zp:=h
theorem xcc(h:Zp:=by
 rcases K with K|K<;>exact⟨⟨#[112,117,116,40]⟩++aq++⟨#[44,32]⟩++sv++⟨#[44,32]⟩++e++⟨#[41]⟩,ni bs Q,gD WkS aw λz X W au=>WkE⟩):Zp:=h
theorem xcd(h:Zp:=by
 unfold PfC;intros;rename_i HK;have bg:V (∀ay,Kept 0 0 W ay->_):=λay k=>MS.call ae.o k (eK 4 G d i 0) xaa;exact xae):Zp:=h
theorem xce(h:Zp:=by
 generalize W.alloc (.cells #[hF 2,hF 3,hF 4,hF 5,hF 7] 3)=bn at*;clear bf aO aX B J ag;obtain⟨_,bf,aO,aX,B,J,ag⟩:=HD.o.bx;have bW:0<=(c:Int)/8:=xaa;have s:IntKind.i64.wrap ((c:Int)/8)=(c:Int)/8:=by rw[IntKind.wrap_i64];omega
 have t:((c:Int)/8).tmod 5=(q:Int):=(Int.tmod_eq_emod_of_nonneg bW).trans aU;clear ak b2 Y ab p U f bW aU;exact xcb):Zp:=h
theorem xcf(h:Zp:=by
 generalize f.vs.length=dv at*;generalize f.ins.length=cd at*;generalize f.outs.length=ck at*;go_upto_region 33 with (go_at_call 158;refine yai br.o ?_;rintro e b4 ⟨⟨N,i,ad,m,Z,aT,rfl,aK,aP,b3,bJ⟩,cG⟩);have cc:V (∀W',Kept 0 0 b4 W'->_):=λW' al=>a7.o W' N i Z aT ad m (cG.trans al) (eW aK al) (eW aP al) (eW b3 al) bJ;have cK:V (∀W',Kept 0 0 b4 W'->_):=λW' al=>(cn.o.keep (cG.trans al)).c1;clear aK aP b3 bJ a7 br cD bi a5 p2;have d2:=cK.o _ (ez 0 0 b4 (eZ N cd i Z Y.length aT ad ck m));have cu:V _:=cc.o _ (ez 0 0 b4 (eZ N cd i Z Y.length aT ad ck m));go_wp2_with (go_at_call 157;refine yai cu.o ?_;rintro e be ⟨⟨x,rfl⟩,bh⟩);go_ret;exact bh.o):Zp:=h
theorem xcg(h:Zp:=by
 go_wp2_with fail;exact xcj):Zp:=h
theorem xch(h:Zp:=by
 obtain⟨k,O,rfl,C⟩:=hrel;clear aU;by_cases aB:k<n
 ·exact xcv
 obtain rfl:k=n:=xaa;go_wp2;go_ret;exact C.done):Zp:=h
theorem xci(h:Zp:=by
 have c1:=bn.o.c k q;have c2:=bn.o.n.t.c2;generalize m:keysL.getD k _=C at c1;go_upto_region 12 with fail;go_quiet (fail)
 have bU:V _:=bn.o.keep (eL 0 0 _ nq);clear c1 c2 bn;generalize wr.drewN _=b8 at bU⊢;have aV:=bU.o.n.t.c0;have bY:=bU.o.n.t.fr 0;have ce:=bU.o.n.t.c2;cases ao:(C==x)
 ·exact xgf
 exact xgk):Zp:=h
theorem xcj(h:Zp:=by
 obtain⟨_,a7,aK,aP,_,_,_⟩:=au.o.bx;go_region_with (first|(go_at_call 37;refine yai (aL.o _ _ _ _ _ _ _ au.o HK.o _ ((eG _).trans aJ)) ?_;rintro e aG ⟨aA,cap',rfl,a8,aH⟩;obtain⟨_,bo,az,aZ,bl,bG,bP⟩:=a8)|(go_at_call 39;refine yai (gS _ _ _ _ _ _) ?_;rintro e aF ⟨rfl,aJ⟩;obtain⟨_,aW,aq,aN,_,_,_⟩:=(au.o.keep ((eG _).trans aJ)).bx))
 all_goals
  go_wp2_with fail
  obtain⟨bf,aO,aX⟩:=fg aG (w.heap.size+1) _ _ _ bo az aZ (.slice a1 Y c1) (hE aA (vs.length+1) cap') (.slice a3 aa c3)
  exact yay (v:=eX a1 Y c1 (some ⟨aA,0,none⟩) (vs.length+1) cap' a3 aa c3) (by simp[results,results41,go_sem,bf,aO,aX]) rfl aH):Zp:=h
theorem xck(h:Zp:=by
 go_enter func44,ntmps44;go_wp2_with (first|(go_at_call 67;refine(fX _ _ xaa xaa).mono ?_;rintro e ag ⟨rfl,rfl⟩;simp only[show fL 2=true from rfl])|(go_at_call 42;refine(e8 _ _ xaa xaa).mono ?_;rintro e ag ⟨rfl,rfl⟩;simp only[show iw 2=2 from rfl]));go_ret;exact⟨rfl,rfl⟩):Zp:=h
theorem xcl(h:Zp:=by
 go_enter func44,ntmps44;go_wp2_with (first|(go_at_call 67;refine(fX _ _ xaa xaa).mono ?_;rintro e ag ⟨rfl,rfl⟩;simp only[show fL 3=true from rfl])|(go_at_call 42;refine(e8 _ _ xaa xaa).mono ?_;rintro e ag ⟨rfl,rfl⟩;simp only[show iw 3=2 from rfl]));go_ret;exact⟨rfl,rfl⟩):Zp:=h
theorem xcm(h:Zp:=by
 go_enter func44,ntmps44;go_wp2_with (first|(go_at_call 67;refine(fX _ _ xaa xaa).mono ?_;rintro e ag ⟨rfl,rfl⟩;simp only[show fL 4=true from rfl])|(go_at_call 42;refine(e8 _ _ xaa xaa).mono ?_;rintro e ag ⟨rfl,rfl⟩;simp only[show iw 4=2 from rfl]));go_ret;exact⟨rfl,rfl⟩):Zp:=h
theorem xcn(h:Zp:=by
 go_enter func44,ntmps44;go_wp2_with (first|(go_at_call 67;refine(fX _ _ xaa xaa).mono ?_;rintro e ag ⟨rfl,rfl⟩;simp only[show fL 5=true from rfl])|(go_at_call 42;refine(e8 _ _ xaa xaa).mono ?_;rintro e ag ⟨rfl,rfl⟩;simp only[show iw 5=2 from rfl]));go_ret;exact⟨rfl,rfl⟩):Zp:=h
theorem xco(h:Zp:=by
 go_enter func44,ntmps44;go_wp2_with (first|(go_at_call 67;refine(fX _ _ xaa xaa).mono ?_;rintro e ag ⟨rfl,rfl⟩;simp only[show fL 7=true from rfl])|(go_at_call 42;refine(e8 _ _ xaa xaa).mono ?_;rintro e ag ⟨rfl,rfl⟩;simp only[show iw 7=2 from rfl]));go_ret;exact⟨rfl,rfl⟩):Zp:=h
theorem xcp(h:Zp:=by
 obtain rfl:k=15:=xaa;have u:V _:=bn.o.n;rw[show rP x _=mH x from rfl]at u;obtain⟨_,bo,az,aZ,ai⟩:=u.o.r;obtain⟨_,bf,aO,aX,r⟩:=u.o.t;have bl:=ai 0;have bG:=ai 1;have bP:=ai 2;have R:V _:=u.o.fin;generalize z:mH x=Y at bf R;have aU:V _:=z;clear bn ai r u z;go_wp2_with fail;change bodyPost _ _ _ _ _ (((wr.setCell _ (eO _)).setCell _ _).setCell _ (eO x));generalize ((wr.setCell _ _).setCell _ _).setCell _ _=cf at R⊢;obtain⟨⟨_,bH,f1,f2,_⟩,H⟩:=R.o;refine yay (v:=.tuple #[.agg #[eO Y,hF i,eO x],hF j]) (by simp[results,results99,go_sem,bH,f1,f2]) rfl ⟨?_,H⟩;rw[bu.o,aU.o];rfl):Zp:=h
theorem xcq(h:Zp:=by
 have J:=ae.o.len1 hj aD;have b8:0<=(j:Int):=xaa;have Q:(j:Int)<vs.length:=xaa;clear aD;exact xad):Zp:=h
theorem xcr(h:Zp:=by
 have bP:V (r=.error (c,p)):=by show _=_;rw[HR.o,cM.o _ rfl];rfl
 go_wp2_with (go_at_call 103;refine yai ct.o ?_;rintro e bj ⟨rfl,bh⟩);go_ret;rw[bP.o];exact TrO.after cP.o ⟨rfl,bh⟩):Zp:=h
theorem xcs(h:Zp:=by
 obtain⟨⟨av,ba,bc,z,aa,ap⟩,b8,Q,bj,B,aT,hn,ae,HO⟩:=H.op N ad m1 af m3 aj;clear H;unfold PtC;go_enter func162,ntmps162;go_wp2_with fail;rw[aT.o];clear av ba bc z aa ap aT;refine fH (Lx ae xaa ?_);exact no_implicit_lambda% xaj):Zp:=h
theorem xct(h:Zp:=by
 obtain⟨⟨av,ba,bc,z,aa,ap⟩,b8,Q,bj,B,aT,hn,ae,HO⟩:=H.op N ad m1 af m3 aj;clear H;unfold MvC;go_enter func163,ntmps163;go_wp2_with fail;rw[aT.o];clear av ba bc z aa ap aT;refine fH (Lq ae xaa ?_);clear ae;unfold MfK;intros;rename_i wc C;obtain⟨p,aA,cap',n,J,ae⟩:=C;go_wp2_with fail;refine fH (Lr ae xaa (show(p.length:Int)-1=(vs.length:Nat) by have:=n.o.2;omega) ?_);exact no_implicit_lambda% xbx):Zp:=h
theorem xcu(h:Zp:=by
 obtain⟨⟨av,ba,bc,z,aa,ap⟩,b8,Q,bj,B,aT,hn,ae,HO⟩:=H.op N ad m1 af m3 aj;clear H;unfold PtC;go_enter func162,ntmps162;go_wp2_with fail;exact yay (by simp[results,results162,go_sem]) rfl (xl HO.o (((ez 0 0 w _).trans (ez 0 0 _ _)).trans (ez 0 0 _ _)) _ _)):Zp:=h
theorem xcv(h:Zp:=by
 obtain⟨av,aL⟩:=C.cell aB;have m1:=C.free;have bw:=eQ C.kept a9 (bh.o k aB);have bg:V _:=fC Q.o k;have ao:V (∀z,fb z=fb (c (xs.getD k 0))->fb z=fb ((λk=>c (xs.getD k 0)) k)):=λ_ h=>h;generalize xs.getD k 0=x at bw bg ao;go_wp2_with fail;refine(bx _ _ bg.o).mono ?_;exact xau):Zp:=h
theorem xcw(h:Zp:=by
 clear aL;go_enter func46,ntmps46;go_wp2_with fail;refine yai bu.o ?_;clear bu;rintro e ag ⟨a1,d1,Z,s,d2,a3,d3,us,rfl,aC,b5,an⟩;obtain⟨_,a7,aK,aP,bH,f1,f2⟩:=RB.keep bw.o an;obtain⟨bd,aR,aV⟩:=fg _ _ _ _ _ a7 aK aP (.slice a1 Y d1) (.slice Z s d2) (.slice a3 aa d3);have R:V _:=SPo.ret (d1:=d1) (d2:=d2) (d3:=d3) HK.o (by omega:w.heap.size<=w.heap.size+1) a7 aK aP aC b5 an;clear aC b5 an;go_wp2_with fail;refine yay (v:=eX a1 Y d1 Z s d2 a3 aa d3) (by simp[results,results46,go_sem,bd,aR,aV]) rfl R.o):Zp:=h
theorem xcx(h:Zp:=by
 have aa:=ae.o.v.c4;exact xad):Zp:=h
theorem xcy(h:Zp:=by
 go_wp2_with (first|(go_at_call 102;refine yai (bT.o _ _ bN.o) ?_;rintro e a8 ⟨rfl,aI⟩)|fail);exact xez):Zp:=h
theorem xcz(h:Zp:=by
 go_enter func146,ntmps146;go_wp2_with fail;refine(gL _ _).mono ?_;rintro e J ⟨rfl,rfl⟩;exact xdb):Zp:=h
theorem xda(h:Zp:=by
 have ah:=su u.o;generalize Lib.bytesWorld wr 5 ⟨bv.toArray⟩=W2 at o bV C;generalize wr.heap.size=ad at o bV;generalize grownCap wr bv.length 0 5=bT at o;go_upto_region 12 with (go_at_call 61;refine yai (ri W2 _ _ _ _ bV.o xaa) ?_;rintro e bj ⟨b6,c,rfl,q,aY⟩);obtain⟨_,rfl⟩:=rz u.o q;have aA:V _:=(ar.o.trans C.o).trans (aY.kept 0 0);clear o bV C q aY a7 aP u;exact xem):Zp:=h
theorem xdb(h:Zp:=by
 go_wp2_with fail;refine(gL _ _).mono ?_;rintro e J ⟨rfl,rfl⟩;go_wp2_with fail;refine(gL _ _).mono ?_;rintro e J ⟨rfl,rfl⟩;go_wp2;go_ret;exact⟨rfl,rfl⟩):Zp:=h
theorem xdc(h:Zp:=by
 have bR:V (r=.error (c,p)):=by show _=_;rw[bP.o];unfold mM;rw[<-cd.o]
 go_wp2_with (go_at_call 138;refine yai Q.o ?_;rintro e bj ⟨rfl,bh⟩);go_ret;rw[bR.o];exact⟨rfl,bh.1,bh.2.1,((Mv.of HK.o).trans aP.o).bad bh.2.2⟩):Zp:=h
theorem xdd(h:Zp:=by
 go_roundw;exact⟨trivial,k+1,by omega,by go_num,R⟩;simp[intOf];omega):Zp:=h
theorem xde(h:Zp:=by
 refine⟨aW,ni bs b8,gD xaa xab λz X W au=>?_⟩;repeat (rw[yaq]at z;refine sz2 z ?_;clear z;intro _ z)
 exact xal):Zp:=h
theorem xdf(h:Zp:=by
 go_enter func145,ntmps145;go_wp2_with (first|(go_at_call 32;refine yai bw.o ?_;rintro e aG ⟨rfl,av,am,aS⟩)|(go_at_call 63;refine yai (HD.o _) ?_;rintro e ag ⟨rfl,rfl⟩));go_ret;exact⟨rfl,av,am,aS⟩):Zp:=h
theorem xdg(h:Zp:=by
 go_wp2_with fail;go_roundw;exact⟨k+1,F,ab,by omega,by omega,by go_num,rfl,by rw[R.o],by omega,h,l,aT,C,ar⟩;simp[intOf];omega):Zp:=h
theorem xdh(h:Zp:=by
 have bz:=r (j*6+0);rw[Nat.add_zero]at ag ar bz;exact xbc):Zp:=h
theorem xdi(h:Zp:=by
 go_round
 case rel=>exact⟨k+1,by omega,by go_num,R⟩
 case measure=>simp[intOf];omega):Zp:=h
theorem xdj(h:Zp:=by
 clear ae;unfold PfK;intros;rename_i wc C;obtain⟨vs2,aA,cap',r,aw,ae⟩:=C;go_wp2_with fail;refine fH (kO ae xaa (show(vs2.length:Int)-1=((vs.length:Nat)+1) by have:=n.o.2;have:=r.o.2;omega) ?_);unfold PfK;intros;rename_i aF C;obtain⟨bd,aR,aV,HR⟩:=C;go_wp2_with fail;exact yay (by simp[results,results162,go_sem,bd,aR,aV]) rfl (MS.finPR ae.o HR.o (by rw[r.o.1,n.o.1]<;>simp))):Zp:=h
theorem xdk(h:Zp:=by
 have bP:V (r=.error (c,p)):=by show _=_;rw[HR.o,HE.o _ rfl];rfl
 go_wp2_with (go_at_call 103;refine yai am.o ?_;rintro e a8 ⟨rfl,bh⟩);go_ret;rw[bP.o];exact TrO.back HK.o ⟨rfl,bh⟩):Zp:=h
theorem xdl(h:Zp:=by
 rcases Nat.lt_or_ge g W.heap.size with c|c
 ·exact c
 rw[Array.getElem?_eq_none c]at aD;cases aD):Zp:=h
theorem xdm(h:Zp:=by
 clear b1 bV b6 bO aZ b7;go_wp2_with fail;go_roundw;exact⟨k+1,aN,xs++[Z],by omega,by omega,by go_num,by rw[yak,aG.o];rfl,cB,R1,cO,c9⟩;simp[intOf];omega):Zp:=h
theorem xdn(h:Zp:=by
 refine⟨⟨_,_,_,_,aJ,⟨C.bad ⟨G.chg.os,G.chg.tape,G.chg.output,G.chg.size,λi hi hn=>G.chg.block i hi (λc=>hn (.inl c))⟩,λb hb=>?_⟩,λb hb c=>?_⟩,fI ae G.chg y⟩
 ·exact xhe
 rcases G.new b c with d|d
 ·grind
 have:=(eI ae hb).2;omega):Zp:=h
theorem xdo(h:Zp:=by
 intro v' be bv a6 _;have R:V _:=Grow.step aU j m g r bd HE.o bv a6;exact xav):Zp:=h
theorem xdp(h:Zp:=by
 have K:=fh W' (w.heap.size+1) (.slice N Y af) (.slice Z vs.length cap) (.slice ad aa aj);have hb:=h.hb
 have au:∀{e size n:Nat}{v:Value}{xs:List _},W.ownsRow base e size v n xs->(fF W' _ _ _ _).ownsRow w.heap.size e _ v n _:=λax=>
  jc (fY (eW ax k) K (λg aQ=>hO ((eI ax aQ).1))) xaa
 exact⟨⟨au h.i,au h.g.own,au h.o⟩,Kept.new (h.k.trans k) K xaa⟩):Zp:=h
theorem xdq(h:Zp:=by
 clear ae;unfold MfK;intros;rename_i wc C;obtain⟨p,aA,cap',n,J,ae⟩:=C;go_wp2_with fail;refine fH (E8 ae xaa (show(p.length:Int)-1=(vs.length:Nat) by have:=n.o.2;omega) ?_);exact no_implicit_lambda% xbx):Zp:=h
theorem xdr(h:Zp:=by
 intro i hi;rcases List.mem_append.1 hi with hi|hi
 ·exact yaj (O.o i hi) bm.n
 simp at hi;subst hi;exact cW):Zp:=h
theorem xds(h:Zp:=by
 go_wp2;exact xdi):Zp:=h
theorem xdt(h:Zp:=by
 rw[eP]at h;cases B:eP f st u a with
 |none=>rw[B]at h;cases h
 |some az=>
  rw[B]at h;rcases az with⟨c,p⟩|⟨aq,x⟩
  ·cases h;exact⟨_,rfl,rfl⟩
  cases h;exact⟨_,rfl,rfl⟩):Zp:=h
theorem xdu(h:Zp:=by
 have aM:=(D 0).1;have u:=(Vaa 0).1;rcases uq aW with⟨bf,aX⟩|⟨bf,aX⟩
 ·exact xcc
 exact xcc):Zp:=h
theorem xdv(h:Zp:=by
 go_wp2_with (first|(go_at_call 102;refine yai (bT.o _ _ bX.o) ?_;rintro e bj ⟨rfl,aI⟩)|fail);go_ret;rw[R.o];exact⟨rfl,aI.c5,aI.c6,(Mv.of bX.o).bad aI.chg⟩):Zp:=h
theorem xdw(h:Zp:=by
 cases s
 ·exact xgn
 exact xgo):Zp:=h
theorem xdx(h:Zp:=by
 clear m bU;go_wp2_with fail;go_roundw;exact⟨k+1,by omega,by go_num,R⟩;simp[intOf];omega):Zp:=h
theorem xdy(h:Zp:=by
 have aM:=(D 0).1;have u:=(Vaa 0).1;rcases uq aW with⟨bf,aX⟩|⟨bf,aX⟩
 ·exact xcc
 exact xhs):Zp:=h
theorem xdz(h:Zp:=by
 clear br a1 Z;exact xbn):Zp:=h
theorem xea(h:Zp:=by
 clear hb;go_wp2;exact xdd):Zp:=h
theorem xeb(h:Zp:=by
 clear br a1;exact xck):Zp:=h
theorem xec(h:Zp:=by
 clear br a1;exact xcl):Zp:=h
theorem xed(h:Zp:=by
 clear br a1;exact xcm):Zp:=h
theorem xee(h:Zp:=by
 clear br a1;exact xcn):Zp:=h
theorem xef(h:Zp:=by
 clear br a1;exact xco):Zp:=h
theorem xeg(h:Zp:=by
 clear br;go_enter func44,ntmps44;go_wp2_with (first|(go_at_call 67;refine(fX _ _ xaa xaa).mono ?_;rintro e ag ⟨rfl,rfl⟩;simp only[show fL 10=false from rfl])|(go_at_call 42;refine(e8 _ _ xaa xaa).mono ?_;rintro e ag ⟨rfl,rfl⟩;simp only[show iw 10=1 from rfl]));go_ret;exact⟨rfl,rfl⟩):Zp:=h
theorem xeh(h:Zp:=by
 clear br;go_enter func44,ntmps44;go_wp2_with (first|(go_at_call 67;refine(fX _ _ xaa xaa).mono ?_;rintro e ag ⟨rfl,rfl⟩;simp only[show fL 13=true from rfl])|(go_at_call 42;refine(e8 _ _ xaa xaa).mono ?_;rintro e ag ⟨rfl,rfl⟩;simp only[show iw 13=1 from rfl]));go_ret;exact⟨rfl,rfl⟩):Zp:=h
theorem xei(h:Zp:=by
 clear br;go_enter func44,ntmps44;go_wp2_with (first|(go_at_call 67;refine(fX _ _ xaa xaa).mono ?_;rintro e ag ⟨rfl,rfl⟩;simp only[show fL 6=true from rfl])|(go_at_call 42;refine(e8 _ _ xaa xaa).mono ?_;rintro e ag ⟨rfl,rfl⟩;simp only[show iw 6=1 from rfl]));go_ret;exact⟨rfl,rfl⟩):Zp:=h
theorem xej(h:Zp:=by
 rcases List.mem_append.1 aI with c|c
 ·exact f.dg.k u c
 simp only[List.mem_singleton]at c;subst c;exact aM):Zp:=h
theorem xek(h:Zp:=by
 go_region_with (first
  |(go_at_call 39;refine yai (gS _ _ _ _ _ _) ?_;rintro e a8 ⟨rfl,aJ⟩;have G:=(y.o.keep ((eG ag).trans aJ)).c1)
  |(go_at_call 106;refine yai (cd.o _ (bN.o.trans ((eG ag).trans aJ))) ?_;rintro e bj ⟨⟨x,rfl⟩,bh⟩))
 all_goals (go_wp2_with fail;go_ret;rw[R.o];exact bh.o)):Zp:=h
theorem xel(h:Zp:=by
 have B:=E1.1;obtain⟨aN,bh,E2⟩:=al (1) xaa (Q);have U:=E2.1;rcases uq aW with⟨bf,aX⟩|⟨bf,aX⟩
 ·exact xky
 exact xhc):Zp:=h
theorem xem(h:Zp:=by
 go_wp2_with fail;go_roundw;exact⟨i+1,by omega,by go_num,aA⟩;simp[intOf];omega):Zp:=h
theorem xen(h:Zp:=by
 go_wp2_with (go_at_call 140;refine yai n.o ?_;rintro e ag ⟨rfl,aI⟩);exact xft):Zp:=h
theorem xeo(h:Zp:=by
 go_enter func113,ntmps113;go_wp2;go_ret;exact⟨rfl,HK.o _ _⟩):Zp:=h
theorem xep(h:Zp:=by
 go_region_with (first
  |(go_at_call 39;refine yai (gS _ _ _ _ _ _) ?_;rintro e a8 ⟨rfl,aJ⟩;have G:=(y.o.keep ((eG ag).trans aJ)).c1)
  |(go_at_call 106;refine yai (ak.o _ ((eG ag).trans aJ)) ?_;rintro e bj ⟨⟨x,rfl⟩,bh⟩))
 all_goals (go_wp2_with fail;go_ret;exact bh.o)):Zp:=h
theorem xeq(h:Zp:=by
 go_region_with (first|(go_at_call 51;refine(bQ.o _).mono ?_;rintro e ag ⟨rfl,rfl⟩)|(go_at_call 83;refine(al.o _).mono ?_;rintro e ag ⟨rfl,rfl⟩)|(go_at_call 82;refine(aU.o 1).mono ?_;rintro e ag ⟨rfl,O⟩))
 all_goals
  go_wp2_with fail
  go_meet
  exact⟨rfl,(eL 0 0 _ 1).trans O⟩):Zp:=h
theorem xer(h:Zp:=by
 go_wp2;go_roundw;exact⟨k+1,by omega,by go_num,R1,R2⟩;simp[intOf];omega):Zp:=h
theorem xes(h:Zp:=by
 go_enter func10,ntmps10;go_wp2;go_ret;exact⟨rfl,HK.o _ _⟩):Zp:=h
theorem xet(h:Zp:=by
 rcases zh q with⟨B,_⟩|⟨B,U⟩
 ·exact xjw
 exact xgq):Zp:=h
theorem xeu(h:Zp:=by
 generalize (⟨_⟩:ByteArray)=h at HD bz⊢;exact xdf):Zp:=h
theorem xev(h:Zp:=by
 have c:∀o,(fF aG _ _ _ _).cell? _=aG.cell? ⟨_,o,none⟩:=λo=>K.cell a0 (by simp_all);have cy:∀o,(fF aG _ _ _ _).frozen? _=aG.frozen? ⟨_,o,none⟩:=λo=>K.frozen a0 (by simp_all);exact⟨yaj a0 K.size,by grind,by grind,by grind,by grind,by grind,by grind⟩):Zp:=h
theorem xew(h:Zp:=by
 have a:r.testBit i=false:=Nat.testBit_lt_two_pow (yaj hb (mQ xaa));have b:(2 ^ 63+r).testBit i=false:=Nat.testBit_lt_two_pow (yaj (show 2 ^ 63+r<2 ^ 64 by omega) (mQ xaa));rw[a,b,show decide _=false from yax xaa];rfl):Zp:=h
theorem xex(h:Zp:=by
 go_enter func72,ntmps72;go_wp2;go_ret;exact⟨_,rfl,iB _ _ _ _,ie _ _ _ _,_,rfl⟩):Zp:=h
theorem xey(h:Zp:=by
 clear a2;go_enter func17,ntmps17;go_wp2_with fail;generalize g:(w.alloc (eZ a1 Y R (some ⟨aC,bO,none⟩) ab c2 a3 aa c3)).alloc (eM 0 len A I C K)=l at bN a7 aK aP bw d1 d2 d3 d4 d5⊢;clear g;go_quiet (fail)
 go_wp2;go_ret;exact⟨rfl,bN.o.trans (eL 0 0 _ _)⟩):Zp:=h
theorem xez(h:Zp:=by
 go_ret;rw[R.o];exact⟨rfl,aI.c5,aI.c6,(Mv.of bN.o).bad aI.chg⟩):Zp:=h
theorem xfa(h:Zp:=by
 go_wp2_with fail;go_roundw;exact⟨trivial,n+1,by omega,by go_num,by rw[R.o],by rw[R.o]⟩;simp[intOf];omega):Zp:=h
theorem xfb(h:Zp:=by
 go_wp2_with (go_at_call 103;refine yai am.o ?_;rintro e ag ⟨rfl,bh⟩);go_ret;rw[HR.o];exact TrO.back HK.o ⟨rfl,bh⟩):Zp:=h
theorem xfc(h:Zp:=by
 refine⟨U.bad ⟨al.os,al.tape,al.output,al.size,λi hi hn=>al.block i hi (λc=>hn (.inr c))⟩,λb hb=>?_⟩;rcases hb with c|c
 ·exact U.new b (.inl c)
 exact xil):Zp:=h
theorem xfd(h:Zp:=by
 go_roundw;exact⟨k+1,by omega,by go_num,R3⟩;simp[intOf];omega):Zp:=h
theorem xfe(h:Zp:=by
 go_enter func26,ntmps26;go_wp2;go_ret;exact⟨rfl,rfl⟩):Zp:=h
theorem xff(h:Zp:=by
 obtain⟨a7,aK,_,_,ap,aC⟩:=ae.o W' al;have X:=(aQ.o.keep al).lt;have dg:=yaj an al.size;exact⟨(bT.cell (p:=⟨bI,1,none⟩) X ca).trans aK,(bT.cell (p:=⟨aT,of,none⟩) dg cc).trans ap,(bT.cell (p:=⟨aT,of+1,none⟩) dg cc).trans aC⟩):Zp:=h
theorem xfg(h:Zp:=by
 go_wp2_with (first|(go_at_call 42;refine yai (cw.o _) ?_;rintro e cg ⟨rfl,rfl⟩)|fail);clear aR bR aS bb bq bD bg;go_roundw;exact⟨i-1,j+1,by go_num,hO fT.o,hO fT.o,R2⟩;simp[intOf];omega):Zp:=h
theorem xfh(h:Zp:=by
 clear a7;exact xap):Zp:=h
theorem xfi(h:Zp:=by
 rw[bB]at aM;subst aM;rcases bm with c|c
 ·exact F _ O c
 have:=(eI ax O).2;omega):Zp:=h
theorem xfj(h:Zp:=by
 intro v' be bv a6 r;obtain⟨G,cap,rfl,N,aD⟩:=ym bv r;have R:V _:=mF a6 (λk O=>hO ((by simpa[Value.ownBlock] using O))) q.o yad;have R2:V _:=bv;clear bv a6 r;go_wp2;go_ret;exact⟨G,_,rfl,N,aD,R2.o,R.o⟩):Zp:=h
theorem xfk(h:Zp:=by
 clear f ah hn bE e;generalize fd _=cv at bu aX ak;go_enter func144,ntmps144;go_wp2_with fail;refine yai bu.o ?_;rintro e ag ⟨rfl,an⟩;have R:V _:=Kept.trans HK.o an;clear an bu;go_wp2;go_ret;exact⟨rfl,R.o⟩):Zp:=h
theorem xfl(h:Zp:=by
 rcases ae.row with c|⟨r,c,av⟩
 ·exact .inl c.symm
 cases c;exact .inr av):Zp:=h
theorem xfm(h:Zp:=by
 go_enter func82,ntmps82;go_wp2;go_quiet ((first|(go_at_call 51;exact Calls.quiet_of_same (gI _ _))|(go_at_call 53;exact Calls.quiet_of_same (it _ _ _))))
 go_wp2;go_ret;exact⟨rfl,(ez _ _ _ _).trans (eL _ _ _ _)⟩):Zp:=h
theorem xfn(h:Zp:=by
 rintro e J ⟨rfl,rfl⟩;go_wp2;go_ret;exact⟨_,rfl,rfl,by omega,0,rfl⟩):Zp:=h
theorem xfo(h:Zp:=by
 clear O;go_wp2;go_ret;exact⟨_,rfl,(ie _ _ _ _).trans bp.o.symm,iB _ _ _ _,B.drw _,ay.trans (eL _ _ _ _)⟩):Zp:=h
theorem xfp(h:Zp:=by
 subst aM;have f:(Value.slice Z (vs0++M.1).length cap).ownBlock≠some (w.heap.size+1):=hR h.g.row h.n1
 exact⟨_,_,_,rfl,eJ (eJ (eJ (eW h.g.own k) f) f) f,h.g.row,(h.s.keepQ k).new (fh _ _ _ _ _) xaa⟩):Zp:=h
theorem xfq(h:Zp:=by
 go_wp2_with ((go_at_call 42;refine yai (cw.o _) ?_;rintro e be ⟨rfl,rfl⟩));go_roundw
 case rel=>exact⟨j+1,by omega,by have:=bZ.o;congr 1<;>omega,R1,R2⟩
 case measure=>have:=bZ.o;simp[intOf]<;>omega):Zp:=h
theorem xfr(h:Zp:=by
 rcases hb with c|c|c|c|c
 ·exact .inl (.inl c)
 ·exact .inr (yan g (eI az c).1)
 ·exact .inr (yan g (eI aZ c).1)
 ·exact .inr (yan g (eI ar c).1)
 exact .inl (.inr (.inr (.inr (.inr c))))):Zp:=h
theorem xfs(h:Zp:=by
 unfold MfK;intros;rename_i aF C;obtain⟨bd,aR,aV,HR⟩:=C;go_wp2_with fail;exact yay (by simp[results,results163,go_sem,bd,aR,aV]) rfl (MS.finR ae.o HR.o (by rw[q.o.1,r.o.1,n.o.1]<;>simp))):Zp:=h
theorem xft(h:Zp:=by
 go_ret;rw[HR.o];exact⟨rfl,aI.c5,aI.c6,(Mv.of HK.o).bad aI.chg⟩):Zp:=h
theorem xfu(h:Zp:=by
 go_wp2_with fail;exact xfd):Zp:=h
theorem xfv(h:Zp:=by
 have B:∀g,(Value.slice _ _ _).ownBlock=some g->R≠some g:=λg aQ=>by rw[<-h.g.row];exact F g aQ
 refine⟨B,λc=>?_,λg aQ=>?_⟩
 ·have:=(eI ax c).1;have:=h.hb;omega
 rw[ay];exact f g (eI ax aQ).2 (B g aQ)):Zp:=h
theorem xfw(h:Zp:=by
 go_upto_region 23 with fail;go_region
 all_goals (
  go_wp2_with fail
  refine yay (v:=.tuple #[vF,hF c,hF p]) (by simp[results,results34,go_sem,bR,aS,aV]) rfl ?_
  rw[bg.o]
  exact⟨rfl,R.o⟩)):Zp:=h
theorem xfx(h:Zp:=by
 go_enter func139,ntmps139;go_wp2;go_ret;exact⟨rfl,rfl⟩):Zp:=h
theorem xfy(h:Zp:=by
 rw[List.getElem?_take_of_lt xaa]at this;rw[this,List.getElem?_map,yal (by omega:j<xs.length)];simp[List.getD_eq_getElem?_getD,List.getElem?_eq_getElem (by omega:j<xs.length)]):Zp:=h
theorem xfz(h:Zp:=by
 clear h bn;go_enter func5,ntmps5;go_wp2_with fail;refine yai o.o ?_;rintro e aG ⟨rfl,am⟩;obtain⟨_,a7,aK,aP⟩:=aT.keep am;clear aT;go_wp2;go_ret;exact⟨rfl,ar.o.trans am⟩):Zp:=h
theorem xga(h:Zp:=by
 have B:=ar.o;rw[yao (by rw[af.o];decide),aD.o]at B;exact hJ B):Zp:=h
theorem xgb(h:Zp:=by
 go_wp2_with fail;refine(jg _ _ _ _ _ _ _ C).mono ?_;rintro e ag ⟨rfl,U,z,br⟩;clear br;go_wp2;go_roundw;exact⟨j+1,by omega,by go_num,rfl,U,aT.trans z⟩;simp[intOf];omega):Zp:=h
theorem xgc(h:Zp:=by
 go_enter func44,ntmps44;go_wp2;go_ret;exact⟨rfl,rfl⟩):Zp:=h
theorem xgd(h:Zp:=by
 rw[hI c,hI c];exact congrArg _ (ib _ (io F k) (io hb k))):Zp:=h
theorem xge(h:Zp:=by
 rw[List.drop_succ_cons,List.drop_succ_cons,List.drop_zero,show ts++[c,n,q]=(ts++c::[n])++[q] by simp,List.take_append_of_le_length yaf,yao yaf]):Zp:=h
theorem xgf(h:Zp:=by
 have R:V _:=bU.o.miss q (by rw[m];intro c;rw[c]at ao;simp at ao);exact xdx):Zp:=h
theorem xgg(h:Zp:=by
 rw[yah,yar yad,Nat.sub_self];rfl):Zp:=h
theorem xgh(h:Zp:=by
 have:=R2.o;rw[<-bz.o,<-f.o]at this;rw[List.range_succ,List.map_append];exact this):Zp:=h
theorem xgi(h:Zp:=by
 rw[yah,yas O,<-yah]):Zp:=h
theorem xgj(h:Zp:=by
 go_roundw
 case rel=>
  exact xic
 case measure=>simp[intOf];omega):Zp:=h
theorem xgk(h:Zp:=by
 have R:V _:=bU.o.hit q (by rw[m];simpa using ao);exact xdx):Zp:=h
theorem xgl(h:Zp:=by
 intro g cap J B U h3 _;have e:aW.length+1=(aW++[y]).length:=by rw[yak];rfl
 rw[e]at B⊢;refine h g cap _ J rfl ?_ (gX U) h3;rw[List.map_append];exact B):Zp:=h
theorem xgm(h:Zp:=by
 obtain⟨_,rfl⟩:=rz au q;clear o bV C q aY a7 aK aP u au av;exact xem):Zp:=h
theorem xgn(h:Zp:=by
 have bQ:(b:Int)<9223372036854775808:=ae;have bY:decide (9223372036854775808<=(b:Int))=false:=yax xaa;clear ae bQ;go_wp2;go_ret;exact⟨rfl,rfl⟩):Zp:=h
theorem xgo(h:Zp:=by
 have bQ:9223372036854775808<=(b:Int):=ae;have bY:decide (9223372036854775808<=(b:Int))=true:=decide_eq_true xaa;clear ae bQ;go_wp2;go_ret;exact⟨rfl,rfl⟩):Zp:=h
theorem xgp(h:Zp:=by
 have:=a2.o;rw[yao (hT HL.o)]at this;exact this):Zp:=h
theorem xgq(h:Zp:=by
 refine⟨?_,U⟩;rcases B with⟨a1,Z⟩|⟨a1,Z,a3⟩<;>rcases aH with⟨N,aD⟩|⟨N,aD,ad⟩
 ·rw[Z,aD]
 ·exact absurd N a1
 ·exact absurd a1 N
 rw[a3,ad]):Zp:=h
theorem xgr(h:Zp:=by
 go_enter func115,ntmps115;go_wp2_with fail;refine(gL _ _).mono ?_;exact xfn):Zp:=h
theorem xgs(h:Zp:=by
 rintro (c|c|c|c|c)
 ·have:=h.lt;omega
 ·have:=(eI h.r1 c).2;omega
 ·have:=(eI h.r2 c).2;omega
 ·have:=(eI h.r3 c).2;omega
 have:=(eI h.r4 c).2;omega):Zp:=h
theorem xgt(h:Zp:=by
 clear av;go_wp2_with fail;go_quiet (fail)
 go_wp2;go_ret;exact⟨by rw[R1.o,R.o];rfl,(bN.o.trans (Drawn.kept HD.o 0 0)).trans (eL 0 0 _ _)⟩):Zp:=h
theorem xgu(h:Zp:=by
 rw[e];go_enter func133,ntmps133;go_wp2;go_ret;exact⟨rfl,rfl⟩):Zp:=h
theorem xgv(h:Zp:=by
 go_enter func82,ntmps82;go_wp2;go_ret;exact⟨rfl,ez _ _ _ _⟩):Zp:=h
theorem xgw(h:Zp:=by
 rw[hI c];right;exact e _ (iP (by rw[ES xaa];omega)) xaa):Zp:=h
theorem xgx(h:Zp:=by
 refine⟨?_,?_,?_,?_,?_,?_⟩;all_goals first|(go_simp;done)|(simp;done)):Zp:=h
theorem xgy(h:Zp:=by
 rcases aQ with c|c
 ·exact(aT _ c).2
 have:=f.rs.sz;have:=f.bx.sz;omega):Zp:=h
theorem xgz(h:Zp:=by
 rw[show 0x7ff0000000000000=9218868437227405312 from rfl,e];refine⟨?_,Ev xaa⟩;rw[show f64.read _=_ from pY xaa xaa];rfl):Zp:=h
theorem xha(h:Zp:=by
 rw[yah,yal ah]at h;simp only[Option.getD_some]at h;rw[yat ah];grind):Zp:=h
theorem xhb(h:Zp:=by
 have:=iM S.1 (rnm S.2 (vs.getD i hK));rw[E.l1]at this;exact this):Zp:=h
theorem xhc(h:Zp:=by
 rcases K with K|K<;>exact⟨⟨#[106,118,112,40]⟩++aq++⟨#[44,32]⟩++aW++⟨#[44,32]⟩++aN++⟨#[41]⟩,bh,gD WkS aw λz X W au=>WkE⟩):Zp:=h
theorem xhd(h:Zp:=by
 by_cases c:1<=cnt v.op
 ·exact xjq
 exact⟨0,0,λy=>absurd y c⟩):Zp:=h
theorem xhe(h:Zp:=by
 rcases hb with c|c
 ·exact xiv
 exact C.new b (.inr c)):Zp:=h
theorem xhf(h:Zp:=by
 go_enter func129,ntmps129;go_wp2;go_ret;exact⟨rfl,rfl⟩):Zp:=h
theorem xhg(h:Zp:=by
 go_wp2_with fail;go_quiet ((go_at_call 53;exact Calls.quiet_of_same (bn.o _)))
 go_wp2;go_ret;exact⟨rfl,bX.o.trans (eL 0 0 _ _)⟩):Zp:=h
theorem xhh(h:Zp:=by
 go_wp2_with (go_at_call 103;refine yai cO.o ?_;rintro e a8 ⟨rfl,bh⟩);go_ret;rw[HR.o];exact TrO.after cr.o ⟨rfl,bh⟩):Zp:=h
theorem xhi(h:Zp:=by
 go_roundw
 case rel=>
  exact xjv
 case measure=>simp[intOf];omega):Zp:=h
theorem xhj(h:Zp:=by
 go_wp2_with (go_at_call 103;refine yai am.o ?_;rintro e a8 ⟨rfl,bh⟩);go_ret;rw[HR.o];exact TrO.back bN.o ⟨rfl,bh⟩):Zp:=h
theorem xhk(h:Zp:=by
 have R:V _:=ed.o (yax xaa);clear ed R1;go_wp2_with fail;go_ret;exact⟨⟨k,rfl,by rw[R.o];simp⟩,ar.o⟩):Zp:=h
theorem xhl(h:Zp:=by
 go_wp2;go_roundw
 case rel=>exact⟨_,by omega,by have:=bZ.o;congr 1<;>omega,R1,R2⟩
 case measure=>have:=bZ.o;simp[intOf]<;>omega):Zp:=h
theorem xhm(h:Zp:=by
 go_enter func51,ntmps51;go_wp2;go_ret;exact⟨rfl,rfl⟩):Zp:=h
theorem xhn(h:Zp:=by
 go_enter func53,ntmps53;go_wp2;go_ret;exact⟨rfl,rfl⟩):Zp:=h
theorem xho(h:Zp:=by
 have e:b=g:=by simpa[Value.ownBlock] using h.symm
 subst e;exact xgy):Zp:=h
theorem xhp(h:Zp:=by
 rcases hb with c|c|c|c|c
 ·subst c;exact B.lt
 ·exact(eI B.r1 c).2
 ·exact(eI B.r2 c).2
 ·exact(eI B.r3 c).2
 exact(eI B.r4 c).2):Zp:=h
theorem xhq(h:Zp:=by
 rw[b1]at bD;go_wp2;go_roundw;exact⟨q+1,by omega,hU bD.o,by go_num,R1,R2⟩;simp[intOf];omega):Zp:=h
theorem xhr(h:Zp:=by
 clear t q C;go_wp2_with fail;refine yai HD.o ?_;rintro e J ⟨rfl,rfl⟩;go_wp2;go_ret2
 exact⟨0,2,rfl,R.o,bp⟩):Zp:=h
theorem xhs(h:Zp:=by
 rcases K with K|K<;>exact⟨⟨#[103,114,97,100,40]⟩++aq++⟨#[44,32]⟩++aW++⟨#[41]⟩,Q,gD WkS aw λz X W au=>WkE⟩):Zp:=h
theorem xht(h:Zp:=by
 have:=i.2.2;rw[av]at this;exact yan this xaa):Zp:=h
theorem xhu(h:Zp:=by
 obtain⟨g,c,e,_,aQ,_,a2⟩:=mb h.g.own hn rfl;injection e with af a0 aj;subst af;exact⟨g,rfl,h.g.row.symm,aQ,a2.at_⟩):Zp:=h
theorem xhv(h:Zp:=by
 have B:=a2.o;rw[show k=m by omega]at B;show inB ins xss=true;unfold inB;rw[HL.o.1,HL.o.2,B,decide_eq_true rfl];rfl):Zp:=h
theorem xhw(h:Zp:=by
 rw[yah,List.getElem?_set,yah];by_cases c:j=i
 ·subst c;simp[hi]
 simp[c]):Zp:=h
theorem xhx(h:Zp:=by
 clear aY cc;go_wp2_with fail;go_roundw;exact⟨j+1,by omega,by go_num,bU,R⟩;simp[intOf];omega):Zp:=h
theorem xhy(h:Zp:=by
 go_wp2_with fail;refine yai (au.o _) ?_;rintro e ag ⟨rfl,rfl⟩;go_wp2;go_ret;exact⟨by simp,HK.o _ _⟩):Zp:=h
theorem xhz(h:Zp:=by
 clear o bV C;go_wp2_with fail;go_roundw;exact⟨i+1,by omega,by go_num,ar⟩;simp[intOf];omega):Zp:=h
theorem xia(h:Zp:=by
 go_wp2_with (go_at_call 103;refine yai s.o ?_;rintro e ag ⟨rfl,bh⟩);go_ret;rw[HR.o];exact⟨rfl,bh⟩):Zp:=h
theorem xib(h:Zp:=by
 have m:=au.o j ak;go_wp2;go_round
 case rel=>exact⟨j+1,by omega,rfl,by go_num⟩
 case measure=>simp[intOf];omega):Zp:=h
theorem xic(h:Zp:=by
 obtain⟨S',f,bL,bM,cj,cx⟩:=h.o v aA cap' _ b6 aH aB bg.o;exact⟨an+1,S',f,by omega,by go_num,bL,bM,cj,cx⟩):Zp:=h
theorem xid(h:Zp:=by
 go_wp2;go_roundw;exact⟨j+1,_,_,by omega,by go_num,rfl,by go_num,R,m⟩;simp[intOf];omega):Zp:=h
theorem xie(h:Zp:=by
 go_wp2;go_roundw
 case rel=>exact⟨trivial,j,by omega,by go_num,HR⟩
 case measure=>simp[intOf];have:=bk.o;omega):Zp:=h
theorem xif(h:Zp:=by
 clear hb;go_wp2_with fail;go_roundw;exact⟨k+1,by omega,by go_num,HR⟩;simp[intOf];omega):Zp:=h
theorem xig(h:Zp:=by
 go_wp2_with (go_at_call 142;refine yai am.o ?_;rintro e bj ⟨⟨x,rfl⟩,bh⟩);go_ret;exact bh.o):Zp:=h
theorem xih(h:Zp:=by
 go_wp2;go_roundw;exact⟨j+1,by omega,by have:=bU.o;go_num,R1⟩;simp[intOf];omega):Zp:=h
theorem xii(h:Zp:=by
 clear ap a2;exact xds):Zp:=h
theorem xij(h:Zp:=by
 rw[eN _ _ _ _ _ _ (.inl (Ne.symm h)),eN _ _ _ _ _ _ (.inl (Ne.symm h)),eN _ _ _ _ _ _ (.inl (Ne.symm h))]):Zp:=h
theorem xik(h:Zp:=by
 intro j u aI;cases j with
 |zero=>cases aI;obtain⟨b,o,m⟩:=aM;simpa[Addr.add] using f
 |succ j=>cases aI):Zp:=h
theorem xil(h:Zp:=by
 rw[bB]at c;subst c;rcases bl with e|e
 ·exact U.new g9 (.inr e)
 exact .inr (hO U.chg.size)):Zp:=h
theorem xim(h:Zp:=by
 unfold vd;rw[yah,yah,List.getElem?_map];cases vs[j]?<;>rfl):Zp:=h
theorem xin(h:Zp:=by
 have:=U;unfold inB at this;simp only[Bool.and_eq_true,decide_eq_true_eq,af,s.len]at this;exact this.1):Zp:=h
theorem xio(h:Zp:=by
 obtain⟨aA,H,k,af,a0,aj,_,bW⟩:=au o ax;have:=(F c).1;rw[this]at af;cases af;exact⟨k,a0,aj,bW⟩):Zp:=h
theorem xip(h:Zp:=by
 go_wp2;go_roundw;exact⟨q+1,by omega,by go_num,R1,R2⟩;simp[intOf];omega):Zp:=h
theorem xiq(h:Zp:=by
 go_roundw;exact⟨trivial,j+1,by omega,by go_num,R⟩;simp[intOf];omega):Zp:=h
theorem xir(h:Zp:=by
 obtain⟨⟨ba,bc,z,aa,B,U,h3⟩,a6⟩:=h;exact⟨⟨_,_,_,_,B.keep k,U.keep k,h3⟩,eW a6 k⟩):Zp:=h
theorem xis(h:Zp:=by
 go_wp2;go_roundw;exact⟨k+1,by omega,by go_num,R1⟩;simp[intOf];omega):Zp:=h
theorem xit(h:Zp:=by
 rw[yah,yal hi]at h;grind[List.set_getElem_self]):Zp:=h
theorem xiu(h:Zp:=by
 go_wp2_with fail;refine wp_loop_rounds 1 ?_;rw[rounds_succ];go_wp2;go_ret;exact⟨rfl,rfl⟩):Zp:=h
theorem xiv(h:Zp:=by
 rcases G.new b c with d|d
 ·exact C.new b (.inl d)
 exact .inr (yan C.chg.size d)):Zp:=h
theorem xiw(h:Zp:=by
 rw[Nat.testBit_two_pow_add_gt hi,show decide _=false from yax xaa];simp):Zp:=h
theorem xix(h:Zp:=by
 cases s
 all_goals
  go_enter func159,ntmps159
  go_wp2
  go_ret
  exact⟨rfl,rfl⟩):Zp:=h
theorem xiy(h:Zp:=by
 go_wp2_with fail;refine yai HD.o ?_;rintro e J ⟨rfl,rfl⟩;go_wp2;grind[intOf]):Zp:=h
theorem xiz(h:Zp:=by
 have:=((ai.nb i hi).mv aL).weak (M':=Mst P ba bc z aa) (λb hb=>.inl hb);rw[ae];exact this):Zp:=h
theorem xja(h:Zp:=by
 rw[af,a0,Bool.and_eq_true];exact⟨decide_eq_true xaa,decide_eq_true xaa⟩):Zp:=h
theorem xjb(h:Zp:=by
 subst aj;obtain⟨aE,cE,aI⟩:=au.o.form;subst aI;go_upto_region 30 with fail;exact WkM):Zp:=h
theorem xjc(h:Zp:=by
 rw[yah,yas h,<-yah]):Zp:=h
theorem xjd(h:Zp:=by
 have aN:=B.o o H;have bA:=iq (List.all_eq_true.1 b1.o o (List.mem_range.2 H));omega):Zp:=h
theorem xje(h:Zp:=by
 rw[eN _ _ _ _ _ _ (.inl cI),eN _ _ _ _ _ _ (.inl cI),eN _ _ _ _ _ _ (.inl cI)];exact av):Zp:=h
theorem xjf(h:Zp:=by
 rintro e ag ⟨aA,cap',rfl,own,s⟩;rw[h.g.row]at s;exact⟨_,_,rfl,h.next k own s⟩):Zp:=h
theorem xjg(h:Zp:=by
 go_enter func27,ntmps27;go_wp2
 all_goals
  go_ret
  exact⟨rfl,ez _ _ _ _⟩):Zp:=h
theorem xjh(h:Zp:=by
 go_wp2;go_ret;rw[o.o];exact⟨_,rfl,bV.o,bi,HR.o.drw _,aT.trans (eL _ _ _ _)⟩):Zp:=h
theorem xji(h:Zp:=by
 rw[List.drop_of_length_le (hT HL.o.1),List.append_nil]at this;exact this):Zp:=h
theorem xjj(h:Zp:=by
 left;have:=List.findIdx_le_length (p:=(fK · v)) (xs:=S.1);rw[E.l1]at this a9;omega):Zp:=h
theorem xjk(h:Zp:=by
 go_wp2_with fail;go_ret;exact⟨_,0,rfl,yav _ _ _ _,hN⟩):Zp:=h
theorem xjl(h:Zp:=by
 simp only[List.append_nil];exact⟨_,_,_,rfl,eW h k,rfl,(StQ.refl _ _ w).keepQ k⟩):Zp:=h
theorem xjm(h:Zp:=by
 rw[yah,yal h];exact List.getElem_mem _):Zp:=h
theorem xjn(h:Zp:=by
 split
 ·exact .err xab
 split
 ·exact .err xab
 exact kR _ _ _):Zp:=h
theorem xjo(h:Zp:=by
 clear ai B U;exact xfx):Zp:=h
theorem xjp(h:Zp:=by
 have:=a2.o;rw[yao (hT bu.o)]at this;exact this):Zp:=h
theorem xjq(h:Zp:=by
 obtain⟨g,off,k,af,_,_,e4,_⟩:=au v.a (iP c);exact⟨g,off,λ_=>⟨af,e4⟩⟩):Zp:=h
theorem xjr(h:Zp:=by
 go_enter func24,ntmps24;go_wp2;go_ret;exact⟨hU HR.o,rfl⟩):Zp:=h
theorem xjs(h:Zp:=by
 have:=a2.o;rw[yao (hT j.o)]at this;exact this):Zp:=h
theorem xjt(h:Zp:=by
 clear ae h;go_enter func109,ntmps109;go_wp2;go_ret;exact⟨rfl,rfl⟩):Zp:=h
theorem xju(h:Zp:=by
 have:(H.toList.take (n*1))[k]? =(xs.map (Value.int .i64))[k]?:=by rw[bY]
 grind):Zp:=h
theorem xjv(h:Zp:=by
 refine⟨k+1,by omega,by go_num,?_,?_⟩
 ·rw[cd.o]
 rw[cd.o];exact F.o):Zp:=h
theorem xjw(h:Zp:=by
 exfalso;rcases aH with⟨h3,_⟩|⟨_,h3,_⟩
 ·exact h3 B.1
 have:=B.2;omega):Zp:=h
theorem xjx(h:Zp:=by
 unfold val;rw[Nat.pow_zero,Nat.mul_one,Nat.mul_assoc,Nat.pow_sub_mul_pow 2 h]):Zp:=h
theorem xjy(h:Zp:=by
 go_enter func72,ntmps72;go_wp2;go_ret;exact⟨_,rfl,bS,rfl,0,rfl⟩):Zp:=h
theorem xjz(h:Zp:=by
 rw[yah,yal O]at t;simpa using t):Zp:=h
theorem xka(h:Zp:=by
 go_enter func3,ntmps3;go_wp2;go_ret;exact⟨rfl,hN⟩):Zp:=h
theorem xkb(h:Zp:=by
 refine⟨?_,?_,?_,?_,?_,?_,?_⟩;all_goals first|(go_simp;done)|(simp;done)):Zp:=h
theorem xkc(h:Zp:=by
 clear bz;exact xfe):Zp:=h
theorem xkd(h:Zp:=by
 refine wp_mono h ?_;intro e ag J ao;cases e<;>first|exact ao|exact ao.elim):Zp:=h
theorem xke(h:Zp:=by
 rw[e];go_enter func101,ntmps101;go_wp2;go_ret;exact⟨rfl,rfl⟩):Zp:=h
theorem xkf(h:Zp:=by
 refine(al.block b xaa xaa).trans ?_;exact f.k0.block b hb hn):Zp:=h
theorem xkg(h:Zp:=by
 rw[hI c];right;exact e _ (kz (by rw[ES xaa];omega)) xaa):Zp:=h
theorem xkh(h:Zp:=by
 go_enter func150,ntmps150;go_wp2;go_ret;exact⟨rfl,rfl⟩):Zp:=h
theorem xki(h:Zp:=by
 go_wp2;go_ret;exact⟨_,rfl,by rw[a9,show k=10 by omega],ah,_,rfl⟩):Zp:=h
theorem xkj(h:Zp:=by
 rintro e J ⟨rfl,rfl⟩;go_wp2;go_ret;exact⟨_,rfl,rfl,ap,0,rfl⟩):Zp:=h
theorem xkk(h:Zp:=by
 cases e;have e:=Z.len;subst e;exact⟨zs,λ_=>⟨b,c,B,a1,Z,a3⟩⟩):Zp:=h
theorem xkl(h:Zp:=by
 go_wp2_with fail;go_meet;exact⟨_,_,r,_,_,_,rfl,rfl,rfl,cM,R2,R3⟩):Zp:=h
theorem xkm(h:Zp:=by
 rw[yah,List.getElem?_eq_none c]at h;cases h):Zp:=h
theorem xkn(h:Zp:=by
 go_enter func83,ntmps83;go_wp2;go_ret;exact⟨rfl,rfl⟩):Zp:=h
theorem xko(h:Zp:=by
 have bG:=hb.o;have aC:=K.o;have ay:=co.o;constructor<;>omega):Zp:=h
theorem xkp(h:Zp:=by
 clear av;go_wp2;go_ret;exact⟨hU R.o,Kept.refl _ _ _⟩):Zp:=h
theorem xkq(h:Zp:=by
 clear aF a9 a2 bE;go_wp2;go_ret;exact⟨hU R.o,R2.o⟩):Zp:=h
theorem xkr(h:Zp:=by
 intro i hi c;by_cases e:i=k
 ·grind
 exact h.digit i xaa c):Zp:=h
theorem xks(h:Zp:=by
 unfold inB;rw[HL.o.1,HL.o.2,yax ae,Bool.false_and]):Zp:=h
theorem xkt(h:Zp:=by
 rintro e J ⟨rfl,rfl⟩;go_wp2;go_ret;exact⟨rfl,ez _ _ _ _⟩):Zp:=h
theorem xku(h:Zp:=by
 rw[yat ah,List.mem_append];simp_all):Zp:=h
theorem xkv(h:Zp:=by
 go_wp2_with fail;go_meet;exact⟨_,_,r,_,_,_,rfl,rfl,cM,R2,R3⟩):Zp:=h
theorem xkw(h:Zp:=by
 obtain⟨g,e,B,U,h3⟩:=ap.o ai;exact⟨g,e,B,U.keep aJ,h3⟩):Zp:=h
theorem xkx(h:Zp:=by
 rw[yah,yal a9];rfl):Zp:=h
theorem xky(h:Zp:=by
 rcases K with K|K<;>exact⟨aq,bh,gD WkS aw λz X W au=>WkE⟩):Zp:=h
theorem xkz(h:Zp:=by
 have:=fk.o k ct;exact⟨(fld v k).toNat,by omega,by omega⟩):Zp:=h
theorem xla(h:Zp:=by
 rw[yal O];exact h _ (List.getElem_mem _)):Zp:=h
theorem xlb(h:Zp:=by
 rcases r with⟨c,p⟩|x
 ·exact .err (h c p rfl)
 exact .ok):Zp:=h
theorem qaa(h:Zp:=by
 have N:V _:=Dy.box f C hP H;have cq:=fU C.ys i;have bX:=fU C.ys (ni bs i);have p:V (S.length=vs.length):=by show _=_;rw[<-ae,List.length_map]
 have HSV:V _:=ae;have aj:V _:=O;clear f C H ae O;go_enter func58,ntmps58;go_wp2_with fail;generalize (w.alloc _).alloc _=W0 at N⊢;refine yai N.o.next ?_;rintro e ay ⟨rfl,(au:V _)⟩;clear N;go_wp2_with fail;refine yai au.o.next ?_;rintro e W2 ⟨rfl,(HD:V _)⟩;clear au;have ai:0<vs.length:=hO p.o
 have h:nv bs (ni bs i)%vs.length<vs.length:=Nat.mod_lt _ ai;have v:(nv bs _:Int).tmod (vs.length:Int)=(nv bs (ni bs i)%vs.length:Nat):=rfl;have U:(nv bs (ni bs i):Int)%vs.length=(nv bs (ni bs i)%vs.length:Nat):=by rw[Int.natCast_emod]
 have t:V (nv bs (ni bs i)%vs.length=nv bs (ni bs i)%S.length):=by show _=_;rw[p.o]
 generalize nv bs _%vs.length=j at h v U t;have ca:¬vs=[]:=λe=>by rw[e]at ai;exact Nat.lt_irrefl _ ai
 exact qab):Zp:=h
theorem qac(h:Zp:=by
 obtain⟨u,H⟩:=GrS.start f C hP;have ao:V _:=u;have s:V (Kept P (P+1) w _):=ft H;have aL:V (∀(W:World) (F:Nat) (o m p q r:Int),GrS W I P a n cap F bs w.heap.size (.slice a1 Y c1) (.slice Z vs.length c2) (.slice a3 aa c3) ins vs outs->Kept P (P+1) w W->∀ay,Kept 0 0 W ay->_):=λW F o m p q r S k ay am=>S.put k am (eK o m p q r) (Nat.zero_lt_succ _) hn;have hj:(nv bs (ni bs i):Int)%(vs.length:Int)=((nv bs (ni bs i)%vs.length:Nat):Int):=by rw[Int.natCast_emod]
 have h:nv bs (ni bs i)%vs.length<vs.length:=Nat.mod_lt _ ai;generalize nv bs (ni bs i)%vs.length=j at hj h aw⊢;have z:V ((nv bs (ni bs i):Int).tmod (vs.length:Int)=j):=(Int.tmod_eq_emod_of_nonneg xaa).trans hj;have ca:¬vs=[]:=λe=>by rw[e]at ai;exact Nat.lt_irrefl _ ai
 have cq:=fU C.ys i;have bX:=fU C.ys (ni bs i);have N:¬(nv bs i:Int)%16=0:=xaa;have aj:V _:=O;have ae:V _:=aw;clear f C u H O hj aw;go_enter func41,ntmps41;go_wp2_with fail;generalize (w.alloc (.cells #[.slice a1 Y c1,.slice Z vs.length c2,.slice a3 aa c3] 26)).alloc fE=W0 at ao s⊢;refine yai ao.o.next ?_;rintro e ay ⟨rfl,(a2:V _),am⟩;have aK:=a2.o.bx.q1;have b4:V _:=s.o.trans am;clear am;go_upto_region 11 with fail;go_region_held3 (λJ=>J.cell? ⟨w.heap.size,1,none⟩=some (.slice Z vs.length c2)) (go_keep) (first|(go_at_call 32;refine yai (a2.o.keep (eG _)).next ?_;rintro e W2 ⟨rfl,t,an⟩;have aP:=t.bx.q1));have HK:V (Kept P (P+1) w W2):=b4.o.trans ((ft (eG _)).trans an);have au:V _:=t;exact qad):Zp:=h
theorem qae(h:Zp:=by
 have b2:V (∀o,((w.alloc (eZ P Y c1 (some ⟨aC,0,none⟩) ab c2 af aa c3)).alloc fE).frozen? ⟨w.heap.size,o,none⟩=false):=λo=>by simp
 have bB:=gg (w.alloc (eZ P Y c1 (some ⟨aC,0,none⟩) ab c2 af aa c3));rw[show(w.alloc _).heap.size=w.heap.size+1 by simp]at bB;have HR:V _:=bB;have fo:V _:=yM _ P af _ Y c1 _ c2 aa c3 s x _ (c7.keep cN yaa) b5 ae ap b7 cn;have fq:V _:=λW k=>qN W _ _ _ _ c1 _ c2 _ c3 _ _ _ (f.keep (cN.trans k)) bJ xaa cu;have fm:V (∀W,Kept 0 0 _ W->_):=λW k=>((c7.keep (cN.trans k) yaa).at_ x ap).c1;have b0:V _:=f.v.len;have eB:V _:=b8;have ev:V _:=cn;have a0:V _:=b7;have cH:V _:=b6;have ch:V (SzU 2000 _ _):=⟨hO f.v.len,mZ _ (λj hj=>hO (b8 j (by have:=f.v.len;omega))),cG⟩
 have cq:(0:Int)<=x:=xaa;have bX:(x:Int)<ab:=xaa;have bQ:(0:Int)<=s:=xaa;have bY:(s:Int)<ab:=xaa;have eb:((w.alloc (eZ P Y c1 (some ⟨aC,0,none⟩) ab c2 af aa c3)).alloc fE).heap.size=w.heap.size+1+1:=by simp
 clear bB cN f b6 cG b8 cn b7;go_enter func156,ntmps156;go_wp2_with fail;refine yai fo.o ?_;rintro e aG ⟨A,rfl,a2,fu,am⟩;rw[eb]at fu;obtain⟨_,bi,a5,p2⟩:=aH.o.keep am;have eS:=fm.o _ am;generalize fy:(vs.getD x _).len=ca at eS;have gq:V _:=fy;clear fy fm fo;have aY:V (BR _ A _):=a2;have b4:V _:=am;clear a2 am;go_wp2_with fail;clear eS;refine yai (fq.o _ b4.o) ?_;rintro e ag ⟨N,d1,Z,d2,ad,d3,rfl,bV,bO,cc,⟨aK,aP,b3⟩,an⟩;have t:w.heap.size+1+1<=aG.heap.size:=hO b4.o.size
 have HL:V _:=LK.start b0.o aH.o b2.o HR.o (b4.o.trans an) t an.size bV bO cc aK aP b3;have ds:V (BR (fF _ _ (.slice N Y d1) (.slice Z ab d2) (.slice ad aa d3)) A _):=BR.keep (BR.keep aY.o an yaa) (fh _ w.heap.size _ _ _) (.inr (.inl xaa));have fi:V (Farb w _ _ _ _ _ _ _ A):=⟨fu,λc=>hQ ((eI bO c).1) ((BR.lt aY.o)),λc=>hQ ((eI bV c).1) ((BR.lt aY.o)),λc=>hQ ((eI cc c).1) ((BR.lt aY.o))⟩
 exact qaf):Zp:=h
theorem qag(h:Zp:=by
 obtain⟨zs,aU,j,m,g,_⟩:=bp;have bw:=eQ r bs a9;have d5:=eQ r bs bE;have Y:=eQ r (yaj o F.o.size) ((by rw[F.o.cell (p:=⟨aA,bK+k,none⟩) o xaa];exact z k xaa):aG.cell? ⟨aA,bK+k,none⟩=some (.float .f64 (Q.getD k 0)));have ab:=eQ r (yaj H F.o.size) ((by rw[F.o.cell (p:=⟨ca,bB+k,none⟩) H xaa];exact aa k xaa):aG.cell? ⟨ca,bB+k,none⟩=some (.float .f64 (S.getD k 0)));exact qah):Zp:=h
theorem qai(h:Zp:=by
 obtain⟨zs,aU,j,m,g,_⟩:=bp;have bw:=eQ r bs a9;have d5:=eQ r bs bE;have Y:=eQ r (yaj o F.o.size) ((by rw[F.o.cell (p:=⟨aA,bK+k,none⟩) o xaa];exact z k xaa):aG.cell? ⟨aA,bK+k,none⟩=some (.float .f64 (Q.getD k 0)));exact qaj):Zp:=h
theorem qak(h:Zp:=by
 have C:V _:=fZ W g off m cap ts H.tk H.m5 [43] [45];have af:V _:=fZ W g off m cap ts H.tk H.m5 [42] [47];rw[mI aF]at C af;have c0:=H.tk.c0 0 xaa;have c1:=H.tk.c1 0 xaa;have c2:=H.tk.c2 0 xaa;have bo:=H.m5;have aw:=H.mc;have bp:V _:=H.ws;have bk:V _:=H.gd;generalize ts.getD 0 hL=t at*;clear H aF;obtain⟨aO,aT,bv⟩:=t;simp only at ai bB;subst ai;simp only[Nat.zero_mul,Nat.add_zero]at c0 c1 c2;simp only;have ah:=su bB;have bw:V _:=bB;clear bB;have ak:V (∀W',Kept 0 0 W W'->Calls prog 106 #[hD P,(⟨1,1,0,0,0,oz bv⟩:Vl).agg,hF aT] W' λe aA=>(∃x:Int,e=.returned (hF x))/\V (TrO W P I u1 u2 u3 u4 bs (gh st ⟨1,1,0,0,0,oz bv⟩ aT) e aA)):=λW' al=>yai (ms (bp.o.keep al) bk.o ⟨1,1,0,0,0,oz bv⟩ ⟨Int.le_refl _,by show(1:Int)<=1000;decide⟩ (BX bv) aT) (λe aA t=>⟨t.ret,TrO.back al t⟩);obtain⟨r,av⟩:∃r,r=gh st ⟨1,1,0,0,0,oz bv⟩ aT:=⟨_,rfl⟩
 rw[<-av]at ak⊢;clear av bp bk;go_enter func103,ntmps103;go_upto_region 3 with (go_at_call 137;refine yai C.o ?_;rintro e ag ⟨rfl,X⟩;obtain rfl:=X.symm);go_upto_region 15 with (go_at_call 137;refine yai af.o ?_;rintro e ag ⟨rfl,X⟩;obtain rfl:=X.symm);go_upto_region 16 with fail;exact qal):Zp:=h
theorem qam(h:Zp:=by
 have aF:V _:=pV a9.o a0 ad
 have bP:V (r=.error (3,Z)):=by
  have h:=HR.o;rw[tZ ad]at h;exact(hJ h).symm
 have bp:V _:=jI a9.o.c5 a9.o.c6 a9.o.fr 3 Z (Mst P u1 u2 u3 u4) (.inl rfl);clear ad HR bl a9
 go_wp2_with (first
  |(go_at_call 104;refine yai aF.o ?_;rintro e ag ⟨an,rfl,X⟩;obtain rfl:=X.symm;have e9:(0:Int)<=an:=by omega)
  |(go_at_call 102;refine yai bp.o ?_;rintro e a8 ⟨rfl,aI⟩))
 refine yay (v:=.tuple #[]) (by simp[results,results62,go_sem]) rfl ?_;rw[bP.o];exact⟨rfl,aI.c5,aI.c6,(Mv.of HK.o).bad aI.chg⟩):Zp:=h
theorem qan(h:Zp:=by
 obtain⟨⟨av,ba,bc,z,aa,ap⟩,b8,Q,bj,B,aT,hn,ae,HO⟩:=H.op N ad m1 af m3 aj;clear H;unfold PtC;go_enter func162,ntmps162;go_wp2_with fail;rw[aT.o];clear av ba bc z aa ap aT;exact qao):Zp:=h
theorem qap(h:Zp:=by
 go_enter func103,ntmps103;go_upto_region 3 with (go_at_call 137;refine yai C.o ?_;rintro e ag ⟨rfl,X⟩;obtain rfl:=X.symm);go_upto_region 15 with (go_at_call 137;refine yai af.o ?_;rintro e ag ⟨rfl,X⟩;obtain rfl:=X.symm);go_upto_region 16 with fail;exact qaq):Zp:=h
theorem qar(h:Zp:=by
 intros;rename_i wc C;obtain⟨p,aA,cap',n,J,ae⟩:=C;obtain⟨_,_,aW,aq,aN,_,_,_,_⟩:=ae.o.g;go_wp2_with fail;refine(MS.lst ae.o xaa (show(p.length:Int)-1=(vs.length:Nat) by have:=n.o.2;omega)).mono ?_;clear ae aW aq aN;rintro e K ⟨rfl,ae⟩;exact qas):Zp:=h
theorem qat(h:Zp:=by
 unfold pT;intros;rename_i ad hP;have aQ:V _:=@hP;have HD:V _:=h.D;have HSV:V _:=h.hs;have ah:=h.hl;have f:=h.hc;obtain⟨_,bf,aO,aX,B,J,ag⟩:=HD.o.bx;obtain rfl:=Bool.eq_false_iff.2 λq=>absurd (ad.1 q) xaa;clear hP ad;conv=>arg 2;whnf
 exact qau):Zp:=h
theorem qav(h:Zp:=by
 obtain⟨bC,hi,bn,bQ,br⟩:=info_parts rK;have hn:=g.n;have bN:V _:=tF g.k ad;have C:V _:=yT g.len aM;have am:=ez 0 0 W (eM v.op v.len v.a v.b v.c v.k);have a9:V _:=h.keep am;have H:V (Mv _ W (Mst P u1 u2 u3 u4) _):=Mv.of am;have c1:=a9.o.c1;have aU:V _:=a9.o.r2;have cy:=a9.o.fr 1;have J:=me W v;obtain⟨av,ba,bc,z,aa,ap⟩:=J;have b4:(W.alloc (eM v.op v.len v.a v.b v.c v.k)).heap.size=W.heap.size+1:=by simp
 have HR:V (u2.ownBlock≠some P/\u2.ownBlock≠some W.heap.size):=⟨h.np.2.1,λe=>hO ((eI h.r2 e).2)⟩
 have cQ:=h.lt;have ce:I<=W.heap.size:=hO h.sz
 have aQ:V (gh st v p=if kM _=true then .error _ else .ok _):=rfl;generalize gh _ v p=r at aQ⊢;obtain⟨Z,q,ep⟩:=jr h.r2;clear h am g;subst ep;generalize bB:st.vs.length=bK at*;have bw:V _:=bB;clear bB;go_enter func106,ntmps106;go_wp2_with fail;generalize t:W.alloc _=aG at c1 aU av ba bc z aa ap b4 cy a9 H⊢;have ay:I<=aG.heap.size:=xaa;have aS:P<aG.heap.size:=xaa;have i:W.heap.size<aG.heap.size:=xaa;clear b4 t;exact qaw):Zp:=h
theorem qax(h:Zp:=by
 obtain⟨⟨av,ba,bc,z,aa,ap⟩,b8,Q,bj,B,aT,hn,ae,HO⟩:=H.op N ad m1 af m3 aj;clear H;exact qay):Zp:=h
theorem qaz(h:Zp:=by
 obtain⟨u,H⟩:=GrS.start f C hP;have ao:V _:=u;have s:V (Kept P (P+1) w _):=ft H;have aL:V (∀(W:World) (F:Nat) (v:Vl),GrS W I P a n cap F bs w.heap.size (.slice a1 Y c1) (.slice Z vs.length c2) (.slice a3 aa c3) ins vs outs->Kept P (P+1) w W->∀ay,Kept 0 0 W ay->v.k<18446744073709551616->_):=λW F v S k ay am aM=>S.put k am v aM hn;have cq:=fU C.ys i;have bX:=fU C.ys (ni bs i);have aj:V _:=O;generalize b5:vs.length=ab at ao s aL hn aj⊢;clear b5;clear f C u H O;go_enter func41,ntmps41;go_wp2_with fail;generalize (w.alloc (.cells #[.slice a1 Y c1,.slice Z ab c2,.slice a3 aa c3] 26)).alloc fE=W0 at ao s⊢;refine yai ao.o.next ?_;rintro e ay ⟨rfl,(au:V _),am⟩;have HK:V _:=s.o.trans am;clear am ao s;obtain⟨_,a7,aK,aP,_,_,_⟩:=au.o.bx;exact qba):Zp:=h
theorem qbb(h:Zp:=by
 have H:=ez 0 0 w (eZ N Y c1 aD ab c2 ad aa c3);have aT:=fO w (.slice N Y c1) (.slice aD ab c2) (.slice ad aa c3);have bz:(w.alloc (eZ N Y c1 aD ab c2 ad aa c3)).heap.size=w.heap.size+1:=by simp
 have am:=ez 0 0 (w.alloc (eZ N Y c1 aD ab c2 ad aa c3)) fE;have C:=gg (w.alloc (eZ N Y c1 aD ab c2 ad aa c3));exact qbc):Zp:=h
theorem qbd(h:Zp:=by
 obtain⟨w,F⟩:=bk.o aq a rfl;have ef:¬((a:Int)<0):=xaa;go_upto_region 7 with (go_at_call 103;refine yai am.o ?_;rintro e a8 ⟨rfl,ba,bc,z,aa,aJ,G⟩);have ch:V _:=aH.o.keepC G.chg aL.o;obtain⟨bx,cv,a0,b9,bd⟩:=aJ.lenc F;have bw:=ch.o.c0;have a5:=aJ.c1;rw[a0]at a5;have bZ:V _:=FtI.lit aJ G a;have b5:V (gz (λs e=>eP f s u e) st (es.take 1)=some (.ok (aq,[a]))):=HO.o aq a rfl;have aU:V _:=w;have dv:V (∀i∈[a],i<aq.vs.length):=by intro i hi;simp at hi;subst hi;exact F
 have bB:=w.g.n;clear bk am HE HO G aJ a0 b9 w a9 aW;generalize fe aq a=l at bd;exact qbe):Zp:=h
theorem qbf(h:Zp:=by
 have X:Chg _ _ _:=⟨ae.chg.os,ae.chg.tape,ae.chg.output,ae.chg.size,λb hb hn=>ae.chg.block b hb (by rintro (c|c);exact c;exact hn c)⟩
 have aQ:(Value.slice Z vs.length c2).ownBlock=some aA\/ay.heap.size<=aA:=by
  exact xfl
 have O:∀u∈vs++[v],u.k<18446744073709551616:=λu aI=>by
  exact xej
 exact qbg):Zp:=h
theorem qbh(h:Zp:=by
 have f:∀I,I<W.heap.size->R≠some I->R'≠some I:=λI aT C=>by
  rcases aP.row with e|⟨r,e,av⟩<;>grind
 have bJ:∀{b:Option _}{n e:Nat}{xs:List _},W.ownsRow base 3 1 _ n xs->Apart (.slice b n e) _->(∀g,(Value.slice b n e).ownBlock=some g->R≠some g)/\(Value.slice b n e).ownBlock≠some w.heap.size/\Apart (.slice b n e) _:=λax F=>by
  exact xfv
 obtain⟨cA,ck,ew⟩:=bJ h.i h.a1;obtain⟨bV,bO,cc⟩:=bJ h.o h.a3;have j:R≠some (w.heap.size+1):=λc=>by have:=(eI h.g.own (h.g.row.trans c)).1;have:=h.hb;omega
 exact qbi):Zp:=h
theorem qbj(h:Zp:=by
 obtain⟨rfl,aQ⟩:=F xaa;have ca:w.heap.size≠g:=xaa;have f:w.heap.size+1≠g:=xaa;have i:w.heap.size+1+1≠g:=xaa;obtain⟨am,rfl,bJ,af⟩:=a2 xaa;obtain⟨an,rfl,b5,a0⟩:=aT xaa;exact qbk):Zp:=h
theorem qbl(h:Zp:=by
 have ak:=gK v.op;have au:∀o,o∈eY v->∃g off k,a=some ⟨g,off,none⟩/\o=(k:Nat)/\k<n/\g<w.heap.size/\w.cell? ⟨g,off+k,none⟩=some (hF (tq.getD o.toNat 0)):=λo ax=>f.at_idx (h o ax).1 (h o ax).2
 obtain⟨g,off,F⟩:∃g off,1<=cnt v.op->a=some ⟨g,off,none⟩/\g<w.heap.size:=by
  exact xhd
 have aa:∀o,o∈eY v->1<=cnt v.op->∃k:Nat,o=k/\k<n/\w.cell? ⟨g,off+k,none⟩=some (hF (tq.getD o.toNat 0)):=λo ax c=>by
  exact xio
 exact qbm):Zp:=h
theorem qbn(h:Zp:=by
 obtain⟨⟨ba,bc,z,aa,B,U,h3⟩,a6⟩:=h;have bB:∀b,(hE g9 n9 cap9).ownBlock=some b↔g9=b:=λb=>by simp[Value.ownBlock]
 have G:∀b,Mst P ba bc z aa b->b<W'.heap.size:=λb hb=>by
  exact xhp
 have f:¬Mst P ba bc z aa g9:=λc=>by
  rcases bl with e|e
  ·exact h3 g9 e c
  ·have:=G g9 c;omega
 have aL:Mv (Mst P u1 u2 u3 u4) W (λb=>Mst P ba bc z aa b\/(hE g9 n9 cap9).ownBlock=some b) be:=by
  exact xfc
 exact qbo):Zp:=h
theorem qbp(h:Zp:=by
 have ak:V (∀W' v,Kept 0 0 W W'->(1<=v.len/\v.len<=1000)->v.k<18446744073709551616->Calls _ _ _ _ λe aA=>(∃x:Int,e=.returned _)/\V (TrO W P I _ _ _ _ _ (gh _ v _) e _)):=λW' v al B U=>yai (ms (h.keep al) H v B U K) (λe aA t=>⟨t.ret,t.back al⟩);have bT:V (∀W' p,Kept 0 0 W W'->_):=λW' p al=>jI (h.keep al).c5 (h.keep al).c6 (h.keep al).fr 4 p (Mst P u1 u2 u3 u4) (.inl rfl);exact qbq):Zp:=h
theorem qbr(h:Zp:=by
 go_enter func52,ntmps52;go_wp2_with (first|(go_at_call 51;refine(bQ.o _).mono ?_;rintro e ag ⟨rfl,rfl⟩)|fail);refine(aU.o _).mono ?_;rintro e a8 ⟨rfl,aR⟩;have m:=P.o.trans aR;have aI:=aT.o.keep aR;exact qbs):Zp:=h
theorem qbt(h:Zp:=by
 have ef:¬((a:Int)<0):=xaa;go_upto_region 7 with (go_at_call 103;refine yai am.o ?_;rintro e a8 ⟨rfl,ba,bc,z,aa,aJ,G⟩);exact qbu):Zp:=h
theorem qbv(h:Zp:=by
 have bg:∀aA,Kept 0 0 W' aA->_:=λaA an=>
  Q aA P I u1 u2 u3 u4 bs st bC bn cL u g o ts.length c0 ts ⟨H.ws.keep (al.trans an),H.gd,H.nm,H.lc.keep (al.trans an),H.ln,H.lo,c2.keep an,H.tg,hO H.m5,c3,λt ht=>H.ti t (by simp[ht]),λt ht=>H.tn t (by simp[ht])⟩ 2 a F yad az af
 have bl:=gF f st u a H.gd H.nm H.lo cc az af;have v:=H.ws.far2 ax;exact qbw):Zp:=h
theorem qbx(h:Zp:=by
 obtain⟨a5,p2,z,l⟩:=h.np;obtain⟨f,m,p,C,q,r⟩:=h.ap;have bB:∀b,(hE g9 n9 cap9).ownBlock=some b↔g9=b:=λb=>by simp[Value.ownBlock]
 exact qby):Zp:=h
theorem qbz(h:Zp:=by
 obtain⟨zs,aU,j,m,g,_⟩:=bp;have bw:=eQ r bs a9;have d5:=eQ r bs bE;have ci:aG.cell? ⟨aA,bK+0,none⟩=some (.float .f64 (Q.getD 0 0)):=by rw[F.o.cell (p:=⟨aA,bK+0,none⟩) o xaa];exact z 0 xaa
 have bI:=eQ r (yaj o F.o.size) ci;have bd:Q.getD 0 0<18446744073709551616:=fC ax.lt 0;rw[Nat.add_zero]at bI;have aD:0<(P:Int):=xaa;exact qca):Zp:=h
theorem qcb(h:Zp:=by
 have bB:=gg (w.alloc (eZ N Y c1 aD ab c2 ad aa c3));rw[show(w.alloc _).heap.size=w.heap.size+1 by simp]at bB;exact qcc):Zp:=h
theorem qcd(h:Zp:=by
 go_enter func99,ntmps99;go_upto_region 3 with fail;have bw:V _:=AD w i;change Code.wp _ _ _ _ ((w.alloc (.cells #[eO _,.int _ (0:Nat),eO _] 89)).alloc (.cells #[eO _,hF _,eO _] 89));generalize (w.alloc _).alloc _=W0 at bw⊢;have c0:=(aL.o _ bw.o.k).at_ i hi;exact qce):Zp:=h
theorem qcf(h:Zp:=by
 obtain⟨aN,f⟩:=x;obtain⟨B,U,n,h3⟩:=lI g _ _ (by simp_all) a9;have bH:=h3 _ (my (k:=0) (by rw[U];simp));have f1:=h3 _ (my (k:=1) (by rw[U];simp));exact qcg):Zp:=h
theorem qch(h:Zp:=by
 have bc:V _:=cu;clear cu;go_upto_region 4 with (go_at_call 59;refine yai ba.o ?_;rintro e ag ⟨v,rfl,be,an⟩);obtain⟨bz,cr,rfl,O⟩:=TR.slice be;exact qci):Zp:=h
theorem qcj(h:Zp:=by
 obtain⟨w,F⟩:=bk.o s a rfl;have ef:¬((a:Int)<0):=xaa;go_upto_region 7 with (go_at_call 103;refine yai am.o ?_;rintro e ag ⟨rfl,ba,bc,z,aa,v,ar⟩);have y:V _:=aH.o.keepC ar.chg aL.o;obtain⟨bx,cv,a0,b9,bd⟩:=v.lenc F;have bX:=v.c1;subst a0;exact qck):Zp:=h
theorem qcl(h:Zp:=by
 have s:V _:=am;have cA:V _:=bv;have bk:V _:=bl;have cB:V _:=bp;obtain⟨r,av⟩:∃r,r=GJ (ts.getD k hL) az aZ:=⟨_,rfl⟩
 rw[<-av];have HR:V _:=av;clear av H am bv bl bp;go_enter func103,ntmps103;have N:¬((k:Int)<0):=xaa;exact qcm):Zp:=h
theorem qcn(h:Zp:=by
 have aH:V _:=fO w (.slice a1 Y c1) (.slice Z ab c2) (.slice a3 aa c3);have aL:V _:=f.keep ar;have au:V _:=s.keep ar;have HK:V _:=ar;have ch:V (w.heap.size+1<=(w.alloc (eZ a1 Y c1 Z ab c2 a3 aa c3)).heap.size):=by show _<=_;simp
 exact qco):Zp:=h
theorem qcp(h:Zp:=by
 have bz:(w.alloc (eZ N Y c1 aD ab c2 ad aa c3)).heap.size=w.heap.size+1:=by simp
 have C:=gg (w.alloc (eZ N Y c1 aD ab c2 ad aa c3));exact qcq):Zp:=h
theorem qcr(h:Zp:=by
 obtain⟨a5,az⟩:=au bV;obtain⟨p2,aZ⟩:=au bO;obtain⟨z,ar⟩:=au cc;have cN:Kept 0 0 w ((w.alloc g).alloc fE):=(ez 0 0 w _).trans (ez 0 0 _ _);have b4:w.heap.size<(fF aG _ _ _ _).heap.size:=yaj al.sz K.size;exact qcs):Zp:=h
theorem qct(h:Zp:=by
 rw[bQ,Nat.mul_one,Int.toNat_natCast]at this;exact this):Zp:=h
theorem qcu(h:Zp:=by
 refine⟨o.1,o.2.imp id ?_⟩;rintro⟨g,cap,H,af,N,aD,ad⟩;refine⟨g,_,_,af,N,?_,ad⟩;have aQ:g<W.heap.size:=by grind
 exact qcv):Zp:=h
theorem qcw(h:Zp:=by
 have n:(4:Int)=2\/(4:Int)=3\/(4:Int)=4\/(4:Int)=5\/(4:Int)=7:=xab;have u:(5:Int)=2\/(5:Int)=3\/(5:Int)=4\/(5:Int)=5\/(5:Int)=7:=xab;have cc:(3:Int)=2\/(3:Int)=3\/(3:Int)=4\/(3:Int)=5\/(3:Int)=7:=xab;exact qcx):Zp:=h
theorem qcy(h:Zp:=by
 have ar:V _:=ez 0 0 w (eZ a1 Y c1 Z ab c2 a3 aa c3);have aT:=fO w (.slice a1 Y c1) (.slice Z ab c2) (.slice a3 aa c3);exact qcz):Zp:=h
theorem qda(h:Zp:=by
 have aw:=H.tk.len;simp only[yap,yak,List.length_nil]at aw;have aF:=jl F;have z:=jl hb;have ca:us≠[]:=λc=>by rw[c]at z;simp at z
 have y:=jQ F yad;have J:=jQ hb yad;have bM:=H.mc;exact qdb):Zp:=h
theorem qdc(h:Zp:=by
 have aX:=List.findIdx_getElem (w:=a9);have hj:S.1.findIdx (fK · v)<i:=by rw[<-E.l1];exact a9
 have aV:S.1.getD (S.1.findIdx (fK · v)) hK=S.1[S.1.findIdx _]:=by
  exact xkx
 exact qdd):Zp:=h
theorem qde(h:Zp:=by
 have g:=eU (lo:=T) (hi:=T+1) W ⟨T,i,none⟩ (hF x) yac;have bE:=(ez 0 0 bN o).trans (eL 0 0 _ m);have aC:=gX aQ;have C:∀b,b3.ownBlock=some b->_:=λb hb=>(eI f.own hb).1;exact qdf):Zp:=h
theorem qdg(h:Zp:=by
 unfold fK;clear aI aM;generalize (fb u.k==fb v.k)=q at au⊢;have an:∀(o j:Obj),Kept 0 0 w ((w.alloc o).alloc j):=λo j=>(ez 0 0 w o).trans (ez 0 0 _ j);have HK:V _:=an;exact qdh):Zp:=h
theorem qdi(h:Zp:=by
 have own:∀{u:Value}{xs:List _}{m e s:Nat},W'.ownsRow aC.heap.size e s u m xs->(∀b,u.ownBlock=some b->b≠Q)->_:=λo h=>fY o al λb hb=>hO (h b hb)
 exact qdj):Zp:=h
theorem qdk(h:Zp:=by
 rw[heap_setCell_same w g k _ _ _ h];simp[List.map_set]):Zp:=h
theorem qdl(h:Zp:=by
 have aF:=t.p;have c:∀X o,I≠X->(W.setCell ⟨I,j,_⟩ u).cell? ⟨X,o,_⟩=W.cell? _:=λX o co=>eN _ _ _ _ _ _ (.inl co);obtain⟨a0,bf,aO,aX,bI,bL,bM⟩:=h.b;exact qdm):Zp:=h
theorem qdn(h:Zp:=by
 unfold i7;simp only;go_enter func142,ntmps142;go_upto_region 1 with fail;change Code.wp _ _ _ _ (W.alloc (.cells _ 89));generalize W.alloc _=ay at aH HK⊢;exact qdo):Zp:=h
theorem qdp(h:Zp:=by
 obtain⟨bd,aR,aV,bY,ce,cl⟩:=bm;have r:∀o,_:=λo=>HD.o.dg.r2.frozenAt o;have K:(vd _ j).k<18446744073709551616:=HD.o.dg.k _ (iV h);have HK:V _:=K;clear K;obtain⟨_,a7,aK,aP,_,_,_⟩:=HD.o.bx;exact qdq):Zp:=h
theorem qdr(h:Zp:=by
 clear ae;unfold PfK;intros;rename_i wc C;obtain⟨p,aA,cap',n,J,ae⟩:=C;obtain⟨_,_,aW,aq,aN,_,_,_,_⟩:=ae.o.g;go_wp2_with fail;refine(MS.lst ae.o xaa (show(p.length:Int)-1=(vs.length:Nat) by have:=n.o.2;omega)).mono ?_;clear ae aW aq aN;rintro e K ⟨rfl,ae⟩;go_wp2_with fail;exact qds):Zp:=h
theorem qdt(h:Zp:=by
 intros;rename_i wc C;obtain⟨vs2,aA,cap',r,aw,ae⟩:=C;obtain⟨_,_,aW,aq,aN,_,_,_,_⟩:=ae.o.g;go_wp2_with fail;refine(MS.lst ae.o xaa (show(vs2.length:Int)-1=((vs.length:Nat)+1) by have:=n.o.2;have:=r.o.2;omega)).mono ?_;clear ae aW aq aN;rintro e K ⟨rfl,ae⟩;exact qdu):Zp:=h
theorem qdv(h:Zp:=by
 have au:=ae;obtain⟨bC,hi,bn,bQ,br⟩:=info_parts lD;have f:(P<=n/\n<=P)/\(X<=n/\n<=X):=by simp[fp,eR,cnt,lenB]at au;omega
 obtain⟨⟨cc,af⟩,⟨cp,aj⟩⟩:=f;clear au;exact qdw):Zp:=h
theorem qdx(h:Zp:=by
 rintro e ag ⟨u,rfl,aI,y,aY⟩;have U:V _:=HE.o u y;have s:=jN aU aY;have x:=r.trans (aY.kept 0 0);clear y;exact qdy):Zp:=h
theorem qdz(h:Zp:=by
 have aR:=bm.c1;rw[show(vs.getD j hK).len=m from ae.o]at aR;rw[z.o];clear t an bm z bX aK a2 b4 ao s aY N ae;first|(have af:(nv bs i:Int)%16=14:=hO aj.o)|(have af:(nv bs i:Int)%16=15:=hO aj.o)
 clear aj;obtain⟨_,a7,aK,aP,_,_,_⟩:=au.o.bx;go_wp2_with fail;refine yai (au.o.pick hn _) ?_;rintro e b8 ⟨rfl,x,b7⟩;replace HK:V _:=HK.o.trans b7;replace au:V _:=x;clear x b7 a7 aK aP aR;go_wp2_with fail;refine yai au.o.next ?_;rintro e cf ⟨rfl,v,bW⟩;replace HK:V _:=HK.o.trans bW;replace au:V _:=v;clear v bW;have l:=cX.o;exact qea):Zp:=h
theorem qeb(h:Zp:=by
 subst aw;obtain⟨q,ao,aU,l⟩:∃q:Nat,q<5/\(c:Int)/8%5=(q:Int)/\c/8%5=q:=⟨c/8%5,by omega,by omega,rfl⟩
 rw[l,show((base+d/8%6:Nat):Int)=(base:Int)+d/8%6 by omega]at aQ;have u:(q:Int)<5:=xaa;have cz:(base:Int)<=100:=xaa;have r:(d:Int)<256:=xaa;have ae:(c:Int)<256:=xaa;have cV:=Pn W 3 ao;generalize ([2,3,4,5,7]:List Int).getD q 0=o at aQ cV;have g:=HD.o.keep (ez 0 0 W (.cells #[hF 2,hF 3,hF 4,hF 5,hF 7] 3));clear HD l h;have HD:V _:=g;clear g;have b2:¬(c:Int)%8=0:=xaa;have Y:¬(c:Int)%8=1:=xaa;have ab:¬(c:Int)%8=2:=xaa;have p:(c:Int)%8<6:=xaa;exact qec):Zp:=h
theorem qed(h:Zp:=by
 have b8:∀j,j<ab->_:=λj hj=>iq (List.all_eq_true.1 b6 j (List.mem_range.2 hj));have cn:∀j,j<ab->∀k,k<cnt _->_:=λj hj=>mG (List.all_eq_true.1 b6 j (List.mem_range.2 hj));have b7:∀j,j<ab->_:=λj hj=>AH (List.all_eq_true.1 b6 j (List.mem_range.2 hj));have cN:Kept 0 0 w ((w.alloc (eZ P Y c1 (some ⟨aC,0,none⟩) ab c2 af aa c3)).alloc fE):=(ez 0 0 w _).trans (ez 0 0 _ _);have aH:V _:=(fO w (.slice P Y c1) (hE aC ab c2) (.slice af aa c3)).keep (ez 0 0 _ fE);exact qae):Zp:=h
theorem qee(h:Zp:=by
 change Code.wp _ _ _ _ (W.alloc (.cells #[eO [110,97,109,101],hF aT,eO bv] 89));have aH:V _:=im W [110,97,109,101] aT bv;have HK:V _:=ez 0 0 W (.cells #[eO [110,97,109,101],hF aT,eO bv] 89);generalize W.alloc (.cells #[eO [110,97,109,101],hF aT,eO bv] 89)=ay at aH HK⊢;have ch:V _:=HK.o.size;generalize cu:W.heap.size=bI at aH⊢;have bu:V _:=cu;clear cu;obtain⟨a9,N,aD⟩:ay.cell? ⟨bI,0,none⟩=some (eO [110,97,109,101])/\ay.cell? ⟨bI,1,none⟩=some (hF aT)/\ay.cell? ⟨bI,2,none⟩=some (eO bv):=⟨aH.o.c0,aH.o.c1,aH.o.c2⟩
 exact qef):Zp:=h
theorem qeg(h:Zp:=by
 go_upto_region 45 with (go_at_call 138;refine yai Q.o ?_;rintro e bj ⟨dd,eg,rfl,aR,aV,bY,ce,ax,a6,cp⟩);obtain⟨bx,cv,a0,b9,bd⟩:=ax.lenc ai;obtain⟨aT,of,aj,cc,an,ck⟩:=cp.at_ xac;subst a0 aj;have bu:V _:=aP.o.trans a6;have aQ:V _:=aH.o.keepC bu.o.chg aL.o;exact qeh):Zp:=h
theorem qei(h:Zp:=by
 have aR:=bm.c1;rw[show(vs.getD j hK).len=m from ae.o]at aR;rw[z.o];clear t an bm z bX aK a2 b4 ao s aY N ae;exact qej):Zp:=h
theorem qek(h:Zp:=by
 generalize W.heap.size=bI at aH aL⊢;obtain⟨bo,cI,d0,eb⟩:=mL _ es st R aD.o 0 (by rw[af.o];decide) st [] rfl;obtain⟨o,b2,c0,aW,bW⟩:=ag.o.call 0 (by rw[af.o];decide);obtain⟨ea,c7⟩:=bW st bo ay u1 u2 u3 u4 (Gw.refl cy.o) cI (bp.o.keep HK.o) (Mv.of HK.o);rw[<-ag.o.cell (Mv.of HK.o).chg 0]at aW;have HE:V _:=d0;have HO:V _:=eb;have bk:V _:=ea;have am:V _:=c7;have a9:=aH.o.c0;clear cI d0 eb ea c7 bW;exact qel):Zp:=h
theorem qem(h:Zp:=by
 obtain⟨k,O,rfl,bp⟩:=hrel;clear bl;have r:=bp.kept;have d1:=eQ r bs N;exact qen):Zp:=h
theorem qeo(h:Zp:=by
 have aH:V _:=im W bR Z u;have HK:V _:=ez 0 0 W (.cells #[eO bR,hF Z,eO u] 89);generalize W.alloc _=ay at aH HK⊢;generalize W.heap.size=bI at aH aV⊢;have a9:V _:=bl.o.ws.keep HK.o;have N:=aH.o.c1;have aD:=aH.o.c2;exact qep):Zp:=h
theorem qeq(h:Zp:=by
 clear bi a5 p2;obtain⟨_,bi,a5,p2⟩:=aH.o.keep (b4.o.trans an);have bH:=((b4.o.trans an).frozen aH.o.sz xaa).trans (b2.o 0);have f1:=((b4.o.trans an).frozen aH.o.sz xaa).trans (b2.o 1);have f2:=((b4.o.trans an).frozen aH.o.sz xaa).trans (b2.o 2);have aL:=BR.cell ds.o s (by rw[oy,b0.o];exact ae);rw[F]at aL;unfold fF at aL HL ds;clear bV bO cc aK aP b3 an fq aH b2 HR aY b4 eb;exact qer):Zp:=h
theorem qes(h:Zp:=by
 obtain⟨rfl,aQ⟩:=F xaa;have ca:w.heap.size≠g:=xaa;have f:w.heap.size+1≠g:=xaa;have i:w.heap.size+1+1≠g:=xaa;obtain⟨am,rfl,bJ,af⟩:=a2 xaa;exact qet):Zp:=h
theorem qeu(h:Zp:=by
 obtain⟨⟨av,ba,bc,z,aa,ap⟩,b8,Q,bj,B,aT,hn,ae,HO⟩:=H.op N ad m1 af m3 aj;clear H;unfold MvC;go_enter func163,ntmps163;go_wp2_with fail;rw[aT.o];clear av ba bc z aa ap aT;refine fH (wI ae xaa ?_);clear ae;unfold MfK;exact qar):Zp:=h
theorem qev(h:Zp:=by
 rw[ag]at aU⊢;obtain⟨bz,rfl,ax,au,aD⟩:=aU.at_ xac;obtain⟨o,c0,c1,c2,c3⟩:=aD 0 xac;obtain⟨j,R,br,c2',Y⟩:=aD 1 xac;exact qew):Zp:=h
theorem qex(h:Zp:=by
 have bJ:∀{u:Value}{e s n:Nat}{xs:List _},W.ownsRow I e s u n xs->Apart u _->Apart u _:=λax F k O aM=>by
  exact xfi
 exact qey):Zp:=h
theorem qez(h:Zp:=by
 have cH:¬((v:Int)<0):=xaa;go_upto_region 6 with (go_at_call 140;refine yai n.o ?_;rintro e ag ⟨rfl,an⟩);have bN:V _:=HK.o.trans an;have cz:V _:=aH.o.keep an;have aW:=ao.o ag bN.o;have am:V _:=Q.o ⟨v,rfl⟩ ag bN.o;clear n aH HK an a9 aq aN bA cw ao Q;exact qfa):Zp:=h
theorem qfb(h:Zp:=by
 rw[mI aF]at C af;have c0:=H.tk.c0 0 xaa;have c1:=H.tk.c1 0 xaa;have c2:=H.tk.c2 0 xaa;have bo:=H.m5;have aw:=H.mc;exact qfc):Zp:=h
theorem qfd(h:Zp:=by
 go_enter func163,ntmps163;go_wp2_with fail;rw[aT.o];clear av ba bc z aa ap aT;exact qfe):Zp:=h
theorem qff(h:Zp:=by
 obtain⟨b8,eT,cN,ej,dv⟩:=info_parts qk;obtain⟨⟨ci,cz,ct⟩,_,aM,ax,_⟩:=gM b6;have cp:=f.v.len;have cA:=f.o.len;have cK:=f.i.len;have G:Y<=20:=xaa;have b5:ab<=2000:=xaa;have cU:aa<=50:=xaa;have b1:V (∀j,j<ab->_):=λj hj=>aM j xaa;exact qfg):Zp:=h
theorem qfh(h:Zp:=by
 have b6:=h;have af:=f.i.len;have a0:=f.v.len;have aj:=f.o.len;unfold okG at b6;simp only[Bool.and_eq_true,decide_eq_true_eq,af,a0,aj]at b6;obtain⟨⟨bJ,b5,cu⟩,_,aM,ax,_⟩:=b6;have b1:V _:=aM;have HO:V _:=ax;exact qfi):Zp:=h
theorem qfj(h:Zp:=by
 have K:=fh aG w.heap.size (.slice N Y d1) (.slice Z ab d2) (.slice ad aa d3);have al:=bl.keep k;obtain⟨bd,aR,aV⟩:=fg _ _ _ _ _ al.q0 al.q1 al.q2 (.slice N Y d1) (.slice Z ab d2) (.slice ad aa d3);exact qfk):Zp:=h
theorem qfl(h:Zp:=by
 have f1:=f.keep k;refine(rN _ _ _ _ _ _ _ _ _ _ _ v f1.dg.r2 f1.dg.sz xaa).mono ?_;rintro e aG ⟨aA,cap',rfl,aU,ae⟩;exact qbf):Zp:=h
theorem qfm(h:Zp:=by
 go_enter func155,ntmps155;go_upto_region 1 with fail;change Code.wp _ _ _ _ (W.alloc (.cells _ 89));generalize W.alloc _=ay at aH HK⊢;generalize W.heap.size=bI at aH⊢;exact qfn):Zp:=h
theorem qfo(h:Zp:=by
 have a2:V (((w.alloc (eZ N Y c1 aD ab c2 ad aa c3)).alloc fE).heap.size=w.heap.size+1+1):=by show _=_;simp
 exact qfp):Zp:=h
theorem qfq(h:Zp:=by
 clear HR bk cB cO cr aJ G Z ah ay ap bE bm;obtain⟨K,U⟩:∃K,ts.getD k hL=K:=⟨_,rfl⟩
 have aL:V _:=U;rw[U]at c1 d1 Q bP;clear U;obtain⟨aG,w,aQ⟩:=K;exact qfr):Zp:=h
theorem qfs(h:Zp:=by
 have ar:=ez 0 0 w (eZ a1 Y c1 (some ⟨aC,bO,none⟩) ab c2 a3 aa c3);have bm:=I i hi;rw[aM]at bm;have aY:V (∀k,k<ab->At w aC (bO+k*6) (vs.getD k hK)):=I;exact qft):Zp:=h
theorem qfu(h:Zp:=by
 have aZ:=ez 0 0 w (eZ none 0 0 none 0 0 none 0 0);have ba:V _:=pW (f.keep aZ) xaa ax;have HL:V ((jE t).length<=4000):=by show _<=_;have:=qw t;have:=f.len;omega
 exact qfv):Zp:=h
theorem qfw(h:Zp:=by
 have cd:=ez 0 0 wr (eM (vs.getD k hK).op (vs.getD k hK).len (vs.getD k hK).a (vs.getD k hK).b (vs.getD k hK).c (vs.getD k hK).k);exact qfx):Zp:=h
theorem qfy(h:Zp:=by
 obtain⟨j,rfl⟩:∃j:Nat,A=j:=⟨A.toNat,by omega⟩
 rw[show fN (j:Int) Y=true from decide_eq_true a2,Bool.true_and,Int.toNat_natCast];have hj:j<Y:=xaa;exact qfz):Zp:=h
theorem qga(h:Zp:=by
 have l:(1:Int)+(nv bs (ni bs (ni bs (ni bs i))):Int)%4=((1+nv bs (ni bs (ni bs (ni bs i)))%4:Nat):Int):=xaa;have K:=fU C.ys (ni bs (ni bs (ni bs i)));exact qgb):Zp:=h
theorem qgc(h:Zp:=by
 obtain⟨a4,cj,aX⟩:=jJ a9.o.r4;subst aX;go_upto_region 2 with (go_at_call 104;refine yai aF.o ?_;rintro e ag ⟨i,rfl,bx,X⟩;obtain rfl:=X.symm);exact qgd):Zp:=h
theorem qge(h:Zp:=by
 have bw:=y.o.c0;have d1:=y.o.c1;have bB:=w.g.n;generalize fe s a=l at bd ak;generalize s.vs.length=bK at*;clear v ar am aH HR bk w a9 aW;exact qgf):Zp:=h
theorem qgg(h:Zp:=by
 have ae:V _:=a6;clear a6 HL;go_upto_region 7 with (go_at_call 60;refine yai x.o ?_;rintro e a8 ⟨rfl,aJ⟩);have bX:V _:=bN.o.trans aJ;exact qgh):Zp:=h
theorem qgi(h:Zp:=by
 generalize Q.getD k 0=ai at Y p HE;generalize S.getD k 0=ak at ab G HE;have ah:(k:Int)<P:=xaa;have ad:(k:Int)<X:=xaa;exact qgj):Zp:=h
theorem qgk(h:Zp:=by
 have di:V (∀W' aA,Kept 0 0 bj W'->Chg (Mst P aR (hE bx bA.vs.length cv) bY ce) W' aA->aA.cell? ⟨bI,1,none⟩=some (hF K)/\aA.cell? ⟨aT,of,none⟩=some (hF (j:Nat))/\aA.cell? ⟨aT,of+1,none⟩=some (hF (n:Nat))):=λW' aA al bT=>by
  exact xff
 have bB:=ad.g.n;have ec:=ad.g.lenB ai;have c8:V _:=ad.g;have ds:V _:=ax;have ed:V _:=ca;exact qgl):Zp:=h
theorem qgm(h:Zp:=by
 refine fH (xA ae xaa ?_);clear ae;unfold PfK;intros;rename_i wc C;obtain⟨vs2,aA,cap',r,aw,ae⟩:=C;obtain⟨_,_,aW,aq,aN,_,_,_,_⟩:=ae.o.g;go_wp2_with fail;refine(MS.lst ae.o xaa (show(vs2.length:Int)-1=((vs.length:Nat)+1) by have:=n.o.2;have:=r.o.2;omega)).mono ?_;clear ae aW aq aN;rintro e K ⟨rfl,ae⟩;go_wp2_with fail;exact qgn):Zp:=h
theorem qgo(h:Zp:=by
 have bM:=H.mc;have bo:=H.m5;have a0:bs.length<=100000:=by rw[H.ws.nl];have:=H.gd.m;omega
 have c0:=H.tk.c0 0 xaa;have b2:=H.tk.c0 1 xaa;have Y:=H.tk.c1 1 xaa;have ab:=H.tk.c2 1 xaa;exact qgp):Zp:=h
theorem qgq(h:Zp:=by
 have aF:V _:=pU a9.o a0 ad;have HFn:V _:=ad;clear ad;go_upto_region 23 with (go_at_call 104;refine yai aF.o ?_;rintro e ag ⟨rfl,X⟩;obtain rfl:=X.symm);clear aF;exact qgr):Zp:=h
theorem qgs(h:Zp:=by
 have d1:=cz.o.c1;clear az co bl HR cA ar v O aD ag cy;obtain⟨q,ao⟩:∃q,q=kj s xs K:=⟨_,rfl⟩
 have cd:V _:=ao;rw[<-ao]at Q cn;clear ao;rw[aG.o]at Q⊢;exact qgt):Zp:=h
theorem qgu(h:Zp:=by
 have aw:=H.tk.len;simp only[yap,yak,List.length_nil]at aw;have aF:=jl F;have y:=jQ F yad;have bM:=H.mc;have cc:=jz F (λt ht=>H.ti t (by simp[ht])) a xac;exact qgv):Zp:=h
theorem qgw(h:Zp:=by
 obtain⟨xs,am⟩:=av.o;have bu:V _:=am;rw[<-am]at an aG;have HD:V _:=an;clear aY an am av;generalize ah:xs.length=l at HD aG;have aq:V _:=ah;have cI:=aG.o;have aM:l<=2000:=xaa;have c9:V _:=cI;clear ah;have ap:=aA.o;obtain⟨_,a7,aK,aP,_,_,_⟩:=HD.o.bx;exact qgx):Zp:=h
theorem qgy(h:Zp:=by
 obtain⟨rfl,aQ⟩:=F xaa;have ca:w.heap.size≠g:=xaa;have f:w.heap.size+1≠g:=xaa;have i:w.heap.size+1+1≠g:=xaa;obtain⟨am,rfl,bJ,af⟩:=a2 xaa;obtain⟨an,rfl,b5,a0⟩:=aT xaa;obtain⟨aJ,rfl,cu,aj⟩:=al xaa;clear a2 aT al F;exact qgz):Zp:=h
theorem qha(h:Zp:=by
 rintro e J ⟨rfl,rfl⟩;rw[ae];clear ae;go_wp2_with fail;exact qhb):Zp:=h
theorem qhc(h:Zp:=by
 obtain⟨aO,aT,bv⟩:=t;simp only at ai;subst ai;have a5:((m:Int)==1)=false:=yaw xaa;simp only[Nat.zero_mul,Nat.add_zero]at c0 c1 c2;exact qap):Zp:=h
theorem qhd(h:Zp:=by
 have cX:V (∀(X bw cj:Value) (o:Nat),(((wr.setCell _ X).setCell _ bw).setCell _ cj).drew.cell? _=wr.cell? ⟨_,o,_⟩):=λX bw cj o=>mi _ _ _ _ X bw cj gv;have ej:V _:=HL.o.a4;have R1:V _:=HL.o.fin (eG _);exact qhe):Zp:=h
theorem qhf(h:Zp:=by
 obtain⟨_,bf,aO,aX,_,_,_⟩:=ag.o.bx;obtain⟨_,bo,az,aZ,bl,bG,bP⟩:=ag.o.rs;go_wp2_with fail;obtain⟨bi,a5,p2⟩:=fg _ _ _ _ _ bo az aZ (.slice a1 ins.length c1) (hE g vs.length c2) (hE g9 n9 cap9);exact qhg):Zp:=h
theorem qhh(h:Zp:=by
 rw[<-av];have HR:V _:=av;clear av h H aY C cD;unfold i7;simp only;go_enter func143,ntmps143;go_upto_region 2 with fail;exact qhi):Zp:=h
theorem qhj(h:Zp:=by
 have C:V _:=fZ W g off m cap ts H.tk H.m5 [43] [45];have af:V _:=fZ W g off m cap ts H.tk H.m5 [42] [47];exact qfb):Zp:=h
theorem qhk(h:Zp:=by
 have a9:=aH.o.c0;go_upto_region 3 with (go_at_call 105;refine yai (bU.o _) ?_;rintro e ag ⟨rfl,an⟩);have bN:V _:=HK.o.trans an;have y:V _:=aH.o.keep an;exact qhl):Zp:=h
theorem qhm(h:Zp:=by
 rw[U]at bV;have bN:V _:=an;clear an bu;go_wp2_with fail;clear a7 aK aP;refine yai bV.o ?_;rintro e a8 ⟨rfl,d3⟩;have aJ:=Kept.trans bN.o (d3.kept 0 0);exact qhn):Zp:=h
theorem qho(h:Zp:=by
 have cN:¬((y:Int)<0):=xaa;go_upto_region 11 with (go_at_call 103;refine yai cO.o ?_;rintro e a8 ⟨rfl,aS,bb,bq,bD,aJ,G⟩);have Z:=cr.o.trans G;exact qhp):Zp:=h
theorem qhq(h:Zp:=by
 obtain⟨w,F⟩:=bk.o ⟨v,rfl⟩ s a rfl;have ap:=yaj (bE.o v rfl) w.n;exact qbt):Zp:=h
theorem qhr(h:Zp:=by
 have bk:V (bG<w.heap.size/\aC<w.heap.size/\ay<w.heap.size/\bG≠aC/\bG≠ay/\aC≠ay):=⟨hP.i.lt,hP.v.lt,hP.o.lt,hP.d12,hP.d13,hP.d23⟩
 exact qhs):Zp:=h
theorem qht(h:Zp:=by
 have bl:V _:=H;have aV:V _:=H.ws.far;obtain⟨bR,Z,u⟩:=n;simp only[Nat.zero_mul,Nat.add_zero,Nat.one_mul]at c0 b2 Y ab;simp only[iO]at h;have HR:V _:=h;exact qhu):Zp:=h
theorem qhv(h:Zp:=by
 clear bd ck ax a6 cp aM Q aP aI cc an b9 ca d1 cz bu aG cn aH cd bP;go_quiet (fail)
 have bv:V _:=eL 0 0 bj nq;have cJ:V _:=ae.o _ bv.o;exact qhw):Zp:=h
theorem qhx(h:Zp:=by
 have cA:V (R=.ok (s,xs)):=by
  exact xga
 obtain⟨cF,ee,aS,bb,bq,bD,rfl,az,(aP:V _),co⟩:=bl.o.xs;have Q:V _:=yU az v.o.g cF xs.length ee xs co (by rw[aG.o];decide) O.o K;have cz:V _:=aH.o.keepC aP.o.chg aL.o;exact qhy):Zp:=h
theorem qhz(h:Zp:=by
 obtain⟨k,O,rfl,bp⟩:=hrel;clear bl;have r:=bp.kept;have d1:=eQ r bs N;exact qia):Zp:=h
theorem qib(h:Zp:=by
 have cu:=cn.o.lt;have aX:=cn.o.c2;have aU:V _:=C.r4;have bx:V _:=C;have cN:bs.length<=5000:=hR C.nl b0.m
 clear C;subst e4;generalize bB:bs.length=bK at*;have bw:V _:=bB;clear bB;exact qic):Zp:=h
theorem qid(h:Zp:=by
 obtain⟨bm,cW⟩:=cN.o _ _ rfl;have ep:¬((Z:Int)<0):=xaa;have cB:V _:=cR.o _ _ rfl;have cO:V _:=v.o.trans bm
 have c9:V (∀i∈xs++[Z],i<aN.vs.length):=by
  exact xdr
 exact qie):Zp:=h
theorem qif(h:Zp:=by
 have ee:=sX (by rw[hn];decide) (by rw[hn];decide) (by rw[hn];decide);have ag:=Aw y ak ee
 have aI:ts++c::[n]=((k::l::(ts++[c,n,q])).drop 2).take (m-1-2):=by
  exact xge
 exact qig):Zp:=h
theorem qih(h:Zp:=by
 have aL:V _:=h.far;have bp:V _:=h;have cy:V _:=H;have ag:V _:=aY;have aD:V _:=C;have af:V _:=cD;exact qii):Zp:=h
theorem qij(h:Zp:=by
 have au:=ae;obtain⟨bC,hi,bn,bQ,br⟩:=info_parts lD;have f:(P<=n/\n<=P):=by simp[fp,eR,cnt,lenB]at au;omega
 obtain⟨cc,af⟩:=f;clear au;exact qik):Zp:=h
theorem qil(h:Zp:=by
 go_enter func62,ntmps62;go_upto_region 20 with fail;go_upto_region 21 with fail;change Code.wp _ _ _ _ (W.alloc (.cells #[eO _,.int _ Z,eO _] 89));exact qeo):Zp:=h
theorem qim(h:Zp:=by
 have ca:¬Mst P aR (hE bx bA.vs.length cv) bY ce bI:=λc=>(bu.o.new bI c).elim aL.o (λc=>hO aH.o.lt);have cw:V _:=(Mv.of (M:=Mst P u1 u2 u3 u4) HK.o).trans bu.o;exact qin):Zp:=h
theorem qio(h:Zp:=by
 have cn:V _:=λbA ab (au:kj s xs K=.ok (bA,ab))=>lI v.o.g xs K O.o au;exact qgs):Zp:=h
