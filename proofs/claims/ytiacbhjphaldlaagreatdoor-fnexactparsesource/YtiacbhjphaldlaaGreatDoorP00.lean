import Derived.BigCall
import Derived.BigQuiet
import Derived.BigRegion
import Derived.Deep.AppendLies
import Derived.Deep.AppendSrc
import Derived.Deep.Cut
import Derived.Deep.CutBlock
import Derived.Deep.CutRange
import Derived.Deep.DeepCutAuto
import Derived.Deep.DrawnRows
import Derived.Deep.Draws
import Derived.Deep.LoopGhost
import Derived.Deep.Quiet
import Derived.Deep.QuietTactic
import Derived.Deep.RegionHeld3
import Derived.Deep.RegionLaw
import Derived.Deep.RegionWith
import Derived.Deep.Slices
import Derived.DeepKeys4
import Derived.LaidEql
import Derived.LaidHandle
import Derived.LaidLaws
import Derived.LaidMore
import Derived.Laws.BytesArg
import Derived.Laws.Cover3
import Derived.Laws.FloatArith
import Derived.Lib.Bytealg
import Derived.Lib.ConvBytes
import Derived.Lib.IndexLaws
import Derived.Lib.Strings
import Derived.LoopIn
import Derived.LoopNIn
import Derived.Maps.OwnOps
import Derived.Maps.OwnSet
import Derived.OpenShut
import Derived.OpenVars
import Derived.OwnWalkIn
import Derived.ProofKit
import Derived.RangeFuncBound
import Derived.RangeFuncCalls
import Derived.RangeFuncLeaves
import Derived.RangeFuncNested
import Derived.Recover
import Derived.RowKitTokens
import Derived.SevenTiedAt
import Derived.Shelf.Abstract
import Derived.Shelf.RegionOpen
import Derived.StillTail
import Derived.Stop.Asserts
import Derived.Stop.Joined
import Derived.TacticsInMore
import Derived.WalkKit
import Derived.WalkLawsBesides
import Derived.WalkMore
import Derived.WalkSpells
namespace Go.Proofs.Z
variable{n}
variable{Zp:Prop}
def M(p:Prop):Prop:=p
theorem M.o{p}(h:M p):p:=h
theorem Q{p:Prop}(h:p):M p:=h
theorem i0{p q:Prop}(h:q)(g:q->p:=by intro x;rw[x];rfl):p:=g h
theorem ix{p q:Prop}(h:q)(g:q->p:=by intro x;rw[x];omega):p:=g h
theorem iv{p q r:Prop}(h:q)(k:r)(g:q->r->p:=by intro x y;rw[<-x];exact y):p:=g h k
theorem it{p q r:Prop}(h:q)(k:r)(g:q->r->p:=by intro x y;rw[x];exact y):p:=g h k
theorem ip{p q r:Prop}(h:q)(k:r)(g:q->r->p:=by intro _ _;omega):p:=g h k
theorem ih{p q:Prop}(h:q)(g:q->p:=by intro _;omega):p:=g h
theorem h6(w:World)(a b:Addr)(v:Value)(h:a≠b):(w.setCell a v).cell? b=w.cell? b:=World.cell?_setCell_other w a b v h
theorem h5{α:Type _}{a:α}(y:α){l:List α}(h:a∈l):a∈y::l:=List.mem_cons_of_mem y h
theorem h4{α:Type _}{a b:α}(h:some a=some b):a=b:=Option.some.inj h
theorem h3{c:Prop}{d:Decidable c}(h:c){α:Sort _}{t e:α}:ite c t e=t:=if_pos h
theorem h2{c:Prop}{d:Decidable c}(h:¬c){α:Sort _}{t e:α}:ite c t e=e:=if_neg h
theorem h1{a b:Prop}(h:a)(g:b):a/\b:=⟨h,g⟩
open Go.RowKit
theorem yaa{A B}{n:Nat}:A∨B∨n≤n:=.inr (.inr (Nat.le_refl _))
theorem yab{A}:(n≤n∧n<n+1)∨A:=.inl ⟨Nat.le_refl _,Nat.lt_succ_self _⟩
theorem yac{n:Nat}:n≤n:=Nat.le_refl _
theorem yad:0≤n:=Nat.zero_le _
theorem yae:n<n+1:=Nat.lt_succ_self _
theorem yaf(h:Zp:=by simp;omega):Zp:=h
theorem yag(h:Zp:=by show(0:Nat)<18446744073709551616;decide):Zp:=h
theorem yah.{u}{α:Type u}{l:List α}{i a}:l.getD i a=l[i]?.getD a:=List.getD_eq_getElem?_getD
theorem yai{P f args w R R'}(h:Calls P f args w R)(g:∀e w',R e w'→R' e w'):Calls P f args w R':=h.mono g
theorem yaj{n m k:Nat}(h:n<m)(g:m≤k):n<k:=Nat.lt_of_lt_of_le h g
theorem yak.{u}{α:Type u}{s t:List α}:(s++t).length=s.length+t.length:=List.length_append
theorem yal.{u}{α:Type u}{l:List α}{i}(h:i<l.length):l[i]?=some l[i]:=List.getElem?_eq_getElem h
theorem yam.{u}{α:Type u}[BEq α][LawfulBEq α]{a b:α}(h:a≠b):(a==b)=false:=beq_eq_false_iff_ne.2 h
theorem yan{n m k:Nat}(h:n≤m)(g:m≤k):n≤k:=Nat.le_trans h g
theorem yao.{u}{α:Type u}{i}{l:List α}(h:l.length≤i):l.take i=l:=List.take_of_length_le h
theorem yap.{u}{α:Type u}{a}{s:List α}:(a::s).length=s.length+1:=rfl
theorem yaq.{u}{α:Type u}{l r:List α}{i}(h:l.length≤i):(l++r)[i]?=r[i-l.length]?:=List.getElem?_append_right h
theorem yar.{u}{α:Type u}{l r:List α}{i}(h:i<l.length):(l++r)[i]?=l[i]?:=List.getElem?_append_left h
theorem yas.{u}{α:Type u}{i}{l:List α}(h):l.take (i+1)=l.take i++[l[i]]:=List.take_succ_eq_append_getElem h
theorem yat(w:World)(c t i):(w.alloc (.cells c t)).cell? ⟨w.heap.size,i,none⟩=c[i]?:=World.cell?_alloc_new w c t i
theorem yau(w:World){b}(e){s}:w.ownsRow b e s (.slice none 0 0) 0 []:=World.ownsRow_nil w b e s
theorem yav.{u}{α:Type u}[BEq α][LawfulBEq α]{a b:α}(h:a≠b):(a==b)=false:=beq_false_of_ne h
theorem yaw{p}[Decidable p](h:¬p):decide p=false:=decide_eq_false h
theorem yax{P fn R a w v}(h:Sem.run P (results fn a.tmps) w=.ok v w)(g:a.defers=[])(k:R (.returned v) w):bodyPost P fn R .ret a w:=bodyPost_ret h g k
open Go.RowKit
abbrev ge(b:Nat):Value:=.pointer (some ⟨b,0,none⟩)
abbrev hZ(b n c:Nat):Value:=.slice (some ⟨b,0,none⟩) n c
abbrev h0(x:Int):Value:=.int .i64 x
theorem xaa(h:Zp:=by omega):Zp:=h
theorem xab(h:Zp:=by decide):Zp:=h
theorem xac(h:Zp:=by simp):Zp:=h
theorem xad(h:Zp:=by
 conv=>arg 2;whnf
 go_region_with (first
  |(go_at_call 109;refine yai (aE.o _ ((dH W).trans af)) ?_;rintro e Z ⟨aY,cap',rfl,⟨aw,b2⟩,⟨u1,r1⟩,⟨ap,bp⟩,au,_,bl⟩;have a6:=au 0;have bn:=au 1;have cc:=au 2;clear au)
  |(go_at_call 37;refine yai iy ?_;rintro e aa ⟨rfl,af⟩;have b1:=(MS.keep O.o ((dH W).trans af)).g.c0;have bw:=(MS.keep O.o ((dH W).trans af)).g.c1;have p2:=(MS.keep O.o ((dH W).trans af)).g.c2))
 all_goals exact ay _ ⟨_,_,_,⟨rfl,by simp⟩,by simp,bl⟩):Zp:=h
theorem xae(h:Zp:=by
 have bq:=O.o.g.c0;have ak:=O.o.g.c1;have az:=O.o.g.c2;exact xad):Zp:=h
theorem xaf(h:Zp:=by
 unfold MfC;intros;rename_i ay;have bq:=O.o.g.c0;have ak:=O.o.g.c1;have az:=O.o.g.c2;obtain⟨_,bJ,ba,bu,bG,bB,bQ⟩:=O.o.b;have b:M (∀W:World,_):=λW=>jg W L a2 U m1 K vs.length cap m3 ag xaa;rw[bb]at b;clear bb;conv=>arg 2;whnf
 go_region_with (first
  |(go_at_call 67;refine yai (b.o _) ?_;rintro e ao ⟨rfl,a5⟩;clear bJ ba bu bG bB bQ;obtain⟨⟨_,_,bT,bg,a8,_,_,_,_⟩,⟨_,bJ,ba,bu,bG,bB,bQ⟩,_,_,_,_,_⟩:=MS.keep O.o ((dH W).trans a5)))
 all_goals
  obtain⟨aP,aQ,aU⟩:=fQ ao (w.heap.size+1) bJ ba bu (.slice L m1 K) (.slice a2 vs.length cap) (.slice U m3 ag)
  exact ay _ ⟨aP,aQ,aU,⟨ao,(dH W).trans a5,rfl⟩⟩):Zp:=h
theorem xag(h:Zp:=by
 have aE:M _:=iZ ((bk.o _ S.o.k).cut (i:=i) c.o.2) (cap-i);have aW:=c.o.1;have bK:(0:Int)<=i:=xaa;have a9:(i:Int)<=j:=xaa;have bj:(j:Int)<=cap:=ih c.o.2
 have K:((j:Int)-i).toNat=j-i:=xaa;have aU:=S.o.t.c2;have bN:=S.o.t.fr 2;have aj:=aE.o;go_upto_region 25 with fail;change Code.wp _ _ _ _ (wr.setCell _ (dJ _));have q:M _:=S.o.text (fJ t i j);clear aE aj aU bN aW bK a9 bj K;generalize wr.setCell _ _=aq at q⊢;generalize ar:fJ t i j=x at q;have be:=Q ar;clear ar;obtain⟨_,b2,r1,bp,au⟩:=q.o.r;obtain⟨_,bJ,ba,bu,L⟩:=q.o.t;have a6:=au 0;have bn:=au 1;have cc:=au 2;have R:=Q q.o.fin;clear au L q;go_wp2_with fail;change bodyPost _ _ _ _ _ (((aq.setCell _ (dJ _)).setCell _ _).setCell _ (dJ x));generalize ((aq.setCell _ _).setCell _ _).setCell _ _=bv at R⊢;obtain⟨⟨_,bZ,aS,bO,_⟩,G⟩:=R.o;refine yax (v:=.tuple #[.agg #[dJ fx,h0 i,dJ x],h0 j]) (by simp[results,results29,go_sem,bZ,aS,bO]) rfl ⟨?_,G⟩;rw[b0.o.1,b0.o.2,be.o];rfl):Zp:=h
theorem xah(h:Zp:=by
 clear O;unfold PfK;intros;rename_i wc au;obtain⟨p,aY,cap',b,G,O⟩:=au;go_wp2_with fail;refine eG (jZ O xaa (show(p.length:Int)-1=(vs.length:Nat) by have:=b.o.2;omega) ?_);unfold PfK;intros;rename_i y au;obtain⟨aP,aQ,aU,aF⟩:=au;go_wp2_with fail;exact yax (by simp[results,results113,go_sem,aP,aQ,aU]) rfl (MS.finPR O.o aF.o (by rw[b.o.1]<;>simp))):Zp:=h
theorem xai(h:Zp:=by
 obtain⟨a9,bj,bI,bR,af,aa,aY⟩:=aR.o.ex;have ch:Mv (Mst P u1 ap u3 u4) aq (Mst P a9 bj bI bR) wr:=⟨aa.chg,λb I=>aa.new b (.inl I)⟩
 obtain⟨ds,ec,ej,el⟩:=lS _ es st R b6.o k (it H.o aV) s G bp.o;obtain⟨o,n1,c1,y,en⟩:=m.o.call k (it H.o aV);obtain⟨c7,ee⟩:=en s ds wr a9 bj bI bR v.o ec af ((Mv.of ay.o).trans ch);rw[<-m.o.cell ((Mv.of ay.o).trans ch).chg k]at y;have d1:=Q ej;have ea:=Q el;have d3:=Q c7;have ci:=Q ee;have aD:=Q aa;have cM:=Q aY;have d5:M _:=(Mv.of (Maa:=Mst P u1 ap u3 u4) ay.o).trans ch;clear ec ej el c7 ee en af aa aY ch;obtain⟨c,p⟩|⟨az,a2⟩:=ds
 ·exact xbr
 exact xap):Zp:=h
theorem xaj(h:Zp:=by
 have ab:=ag.o;generalize Lib.bytesWorld _ 5 _=aH at q u B;generalize wr.heap.size=U at q u;generalize grownCap _ _ 0 5=cv at q;go_upto_region 12 with (go_at_call 14;refine yai (pU _ u.o xaa) ?_;rintro e a7 ⟨ca,c,rfl,y,bo⟩);have aG:M _:=(bd.o.trans B.o).trans (bo.kept 0 0);have p:=F.o _ (B.o.trans (bo.kept 0 0));obtain⟨s,aA⟩|⟨k,aj⟩:=D.o
 ·exact xes
 exact xam):Zp:=h
theorem xak(h:Zp:=by
 go_region_held3 (λW:World=>W.cell? ⟨E.T,0,none⟩=some (ge E.P)/\W.cell? ⟨m,0,none⟩=some (h0 bG)/\W.cell? ⟨m,1,none⟩=some (h0 bB)) (first|go_keep|(simp only[I5 al,I5 X];exact⟨H,ak,b9⟩)) (first
  |(go_at_call 168;refine yai (bf.o _ (dE 0 0 _ _).drew) ?_;rintro e Z ⟨rfl,ad,a5⟩;have z:M _:=h1 ad a5;have H:=dZ ad C.o.1 bJ;have ak:=dZ ad ag c0;have b9:=dZ ad ag c1;obtain⟨aB,ai,aD⟩:=eo aa (A:=Z) #[h0 0,h0 0,h0 0,h0 0,h0 0,.float .f64 0] 74 (S:=λ_=>False) (Kept.chg (Kept.trans (dH _) a5)) (λc=>c);have bK:Z.cell? ⟨aa.heap.size,0,none⟩=some (h0 0):=aB 0;have a9:Z.cell? ⟨aa.heap.size,1,none⟩=some (h0 0):=aB 1;have bj:Z.cell? ⟨aa.heap.size,2,none⟩=some (h0 0):=aB 2;have bI:Z.cell? ⟨aa.heap.size,3,none⟩=some (h0 0):=aB 3;have bR:Z.cell? ⟨aa.heap.size,4,none⟩=some (h0 0):=aB 4;have bH:Z.cell? ⟨aa.heap.size,5,none⟩=some (.float .f64 0):=aB 5;have bZ:=ai 0;have aS:=ai 1;have bO:=ai 2;have bP:=ai 3;have a8:=ai 4;have bS:=ai 5;clear ad a5 aB ai)
  |(go_at_call 168;refine yai (bf.o _ (by first|exact ib|exact ib.drew)) ?_;rintro e Z ⟨rfl,ad,a5⟩;have z:M _:=h1 ad a5;have H:=dZ ad C.o.1 bJ;have ak:=dZ ad ag c0;have b9:=dZ ad ag c1;have av:E.T≠Z.heap.size:=(ih ad.size);have ap:m≠Z.heap.size:=(ih ad.size);clear ad a5))
 ·exact xdy
 exact xcu):Zp:=h
theorem xal(h:Zp:=by
 have aM:=O.o.v.c3;exact xad):Zp:=h
theorem xam(h:Zp:=by
 have o:c=l/\c≠0:=by
  exact xdj
 have aD:(c !=0)=true:=by unfold bne;rw[yav o.2];rfl
 have ap:M _:=ai.o.trans aG.o;obtain⟨aZ,bz,aJ,fr⟩:=br.o _ ap.o;have bZ:=fr 0;have aS:=fr 1;have bO:=fr 2
 have ak:(((a7.drew.setCell ⟨bh,0,none⟩ (.slice none 0 0)).setCell ⟨bh,1,none⟩ (.slice none 0 0)).setCell ⟨bh,2,none⟩ (.slice none 0 0)).cell? ⟨aR,i*3+1,none⟩=some (h0 ps):=by
  exact xgx
 obtain⟨aP,aQ,aU⟩:=fQ _ _ aZ bz aJ (.slice none 0 0) (.slice none 0 0) (.slice none 0 0);have bK:(a7.setCell ⟨_,0,_⟩ _).cell? _=some (.slice none 0 0):=eR aZ;have a9:((a7.setCell ⟨bh,0,_⟩ (.slice none 0 0)).setCell _ _).cell? _=some (.slice none 0 0):=eR ((dR (.inr xaa)).trans bz);have R:M (Kept 0 0 w (((a7.drew.setCell _ (.slice none 0 0)).setCell _ (.slice none 0 0)).setCell _ (.slice none 0 0))):=yD ((ay.o.trans ap.o).trans (dH _)) (Nat.le_of_eq bH.o);have e0:M _:=r.o k;have b:=Q o.1;clear o aj y k D u B q bo bT bg a8 fr br;go_upto_region 13 with fail;go_region
 all_goals (
  go_wp2_with fail
  refine yax (v:=.tuple #[tG,h0 c,h0 ps]) (by simp[results,results4,go_sem,bK,a9,aU]) rfl ?_
  rw[<-bN.o,e0.o,<-b.o]
  exact⟨rfl,R.o⟩)):Zp:=h
theorem xan(h:Zp:=by
 obtain⟨⟨bh,aH,aN,aM,aS,aC⟩,J,aD,P,g,ax,V,O,bl⟩:=Y.op L U m1 K m3 ag;clear Y;unfold MvC;go_enter func114,ntmps114;go_wp2_with fail;rw[ax.o];clear bh aH aN aM aS aC ax;refine eG (DV O xaa ?_);clear O;unfold MfK;intros;rename_i wc au;obtain⟨p,aY,cap',b,G,O⟩:=au;obtain⟨_,_,bq,ak,az,_,_,_,_⟩:=O.o.g;go_wp2_with fail;refine(MS.lst O.o xaa (show(p.length:Int)-1=(vs.length:Nat) by have:=b.o.2;omega)).mono ?_;clear O bq ak az;rintro e h ⟨rfl,O⟩;obtain⟨_,_,bq,ak,az,_,_,_,_⟩:=O.o.g;go_wp2_with fail;refine(MS.orX O.o _ _ xaa).mono ?_;clear O bq ak az;rintro e Z ⟨vs2,t,r,s,n,bz,f,k,rfl,⟨_,b2⟩,⟨_,r1⟩,⟨_,bp⟩,a6,bn,cc,bo,O⟩;go_wp2_with fail;rw[bo.o];clear bo b2 r1 bp a6 bn cc;obtain⟨_,_,bq,ak,az,_,_,_,_⟩:=O.o.g;go_wp2_with fail;refine(MS.orX O.o _ _ xaa).mono ?_;clear O bq ak az;rintro e Z ⟨q,z,v,x,u,bz,a,m,rfl,⟨_,b2⟩,⟨_,r1⟩,⟨_,bp⟩,a6,bn,cc,bo,O⟩;go_wp2_with fail;rw[bo.o];clear bo b2 r1 bp a6 bn cc;refine eG (vp O xaa ?_);clear O;unfold MfK;intros;rename_i wc au;obtain⟨j,aY,cap',c,d4,O⟩:=au;go_wp2_with fail;have l:=Fc xaa xaa b.o.1 f.o a.o c.o.1;exact no_implicit_lambda% xbj):Zp:=h
theorem xao(h:Zp:=by
 obtain⟨k,H,rfl,bh⟩:=hrel;by_cases F:k<15
 ·exact xbn
 exact xbp):Zp:=h
theorem xap(h:Zp:=by
 obtain⟨a5,em⟩:=d3.o az a2 rfl;have fc:¬((a2:Int)<0):=xaa;have cO:M _:=ea.o az a2 rfl;have d4:M _:=v.o.trans a5
 have eb:M (∀i∈G++[a2],i<az.vs.length):=by
  exact xcs
 go_upto_region 41 with (go_at_call 33;refine yai ci.o ?_;rintro e a7 ⟨rfl,aQ,aU,bN,cp,av,bi⟩);have cA:M _:=FtI.step aD.o cM.o aR.o.row av bi;have dv:M (aq.heap.size<=a7.heap.size):=by show _<=_;have:=aD.o.chg.size;have:=bi.chg.size;omega
 have cT:=Q d4.o.m;have O:(a7.alloc (.cells #[h0 a2] 3)).cell? ⟨a7.heap.size,0,none⟩=some (h0 a2):=by rw[yat];rfl
 have aE:=dE 0 0 a7 (.cells #[h0 a2] 3);have a8:M _:=cA.o.keep aE;clear cA aR aD cM d5 d3 ci d1 ea y av bi v aK bp a5;go_wp2_with (first|(at_builtin;refine jF _ rfl _ _ rfl aq.heap.size _ G rfl a8.o.row ⟨a7.heap.size,0,none⟩ a2 rfl O ?c2 ?c3 ?_)|fail)
 case c2=>have:=aI.o;omega
 case c3=>have:=dv.o;simp;omega
 intro g9 cap9 n9 bn b4 ca bO cn;have bm:M _:=FtI.app (st:=az) (bC.o.keep ay.o) cT.o a8.o ca bO (cn.imp id (λe=>by rw[e];simp));exact xcn):Zp:=h
theorem xaq(h:Zp:=by
 clear O;unfold MfK;intros;rename_i wc au;obtain⟨p,aY,cap',b,G,O⟩:=au;obtain⟨_,_,bq,ak,az,_,_,_,_⟩:=O.o.g;go_wp2_with fail;refine(MS.lst O.o xaa (show(p.length:Int)-1=(vs.length:Nat) by have:=b.o.2;omega)).mono ?_;clear O bq ak az;rintro e h ⟨rfl,O⟩;have bh:=O.o.v.c0;have l:(0:Int)<=(vs.length:Nat):=xaa;obtain⟨_,_,bq,ak,az,_,_,_,_⟩:=O.o.g;obtain⟨_,bJ,ba,bu,bG,bB,bQ⟩:=O.o.b;go_wp2_with fail;obtain⟨aP,aQ,aU⟩:=fQ _ _ bJ ba bu (.slice L m1 K) (hZ aY p.length cap') (.slice U m3 ag);exact yax (by simp[results,results114,go_sem,aP,aQ,aU]) rfl (MS.fin O.o ib (by rw[b.o.1]<;>simp))):Zp:=h
theorem xar(h:Zp:=by
 have q:M _:=iZ (c:=cap-k) ((bk.o).cut (i:=k) (j:=p) aw);have aF:=q.o;have o:0<(fJ t k p).length:=by rw[kJ (it bg.o aw)];omega
 have i:M _:=Eu (fJ t k p) o wr
 have ah:M (l++[⟨eV (fJ t k p),fJ t k p,k⟩]++scM t p=aH):=by
  exact xen
 have O:=nD wr ⟨eV (fJ t k p),fJ t k p,k⟩ 84;simp only at O;generalize eV (fJ t k p)=i1 at i ah O;generalize fJ t k p=bz at aF i ah O;have aE:=dE 0 0 wr (.cells #[h0 i1,dJ bz,h0 k] 84);have b:M _:=PkR.keep F.o aE;have s:M _:=bd.o.trans aE;have av:=Q bd.o.size;clear q
 go_wp2_with (first
  |(go_at_call 47;refine yai i.o ?_;rintro e Z ⟨rfl,X⟩;obtain rfl:=X.symm)
  |(at_builtin;refine i6 _ rfl _ _ rfl w.heap.size _ l (by rfl) b.o ⟨wr.heap.size,0,none⟩ ⟨i1,bz,k⟩ (by rfl) O ?c2 ?c3 ?_)
  |fail)
 case c2=>omega
 case c3=>have:=av.o;simp;omega
 intro g9 cap9 n9 bn b4 ca bO cn;have aG:M _:=pt yac s.o b.o bO;have R:M (PkR bn w.heap.size (hZ g9 n9 cap9) (l++[(⟨i1,bz,k⟩:PTk)])):=ca;clear ca bO cn b4 aE O b s aF;go_wp2_with fail;go_roundw
 case rel=>exact⟨p,l++[(⟨i1,bz,k⟩:PTk)],aw,by rw[yak];simp only[List.length_singleton];omega,by go_num,R,aG,ah⟩
 case measure=>simp[intOf];omega):Zp:=h
theorem xas(h:Zp:=by
 go_wp2_with fail;refine yai be.o ?_;exact xba):Zp:=h
theorem xat(h:Zp:=by
 obtain⟨k,L,H,rfl,d3,o,u⟩:=hrel;have bD:L.length=k:=by have:=congrArg List.length d3;simpa using this
 by_cases aV:k<m
 ·exact xbd
 exact xfx):Zp:=h
theorem xau(h:Zp:=by
 obtain⟨⟨bh,aH,aN,aM,aS,aC⟩,J,aD,P,g,ax,V,O,bl⟩:=Y.op L U m1 K m3 ag;clear Y;unfold MvC;go_enter func114,ntmps114;go_wp2_with fail;rw[ax.o];clear bh aH aN aM aS aC ax;obtain⟨_,_,bq,ak,az,_,_,_,_⟩:=O.o.g;refine(MS.orX O.o _ _ xaa).mono ?_;clear O bq ak az;rintro e Z ⟨p,u,h,j,c,bz,b,G,rfl,⟨_,b2⟩,⟨_,r1⟩,⟨_,bp⟩,a6,bn,cc,bo,O⟩;go_wp2_with fail;rw[bo.o];clear bo b2 r1 bp a6 bn cc;obtain⟨_,_,bq,ak,az,_,_,_,_⟩:=O.o.g;go_wp2_with fail;refine(MS.orX O.o _ _ xaa).mono ?_;clear O bq ak az;rintro e Z ⟨vs2,t,r,s,n,bz,f,k,rfl,⟨_,b2⟩,⟨_,r1⟩,⟨_,bp⟩,a6,bn,cc,bo,O⟩;go_wp2_with fail;rw[bo.o];clear bo b2 r1 bp a6 bn cc;refine eG (vp O xaa ?_);clear O;unfold MfK;intros;rename_i wc au;obtain⟨q,aY,cap',a,m,O⟩:=au;go_wp2_with fail;have l:=Fb xaa xaa b.o f.o a.o.1;exact no_implicit_lambda% xbj):Zp:=h
theorem xav(h:Zp:=by
 intros;rename_i ay;have aE:M (∀aq,Kept 0 0 W aq->_):=λaq k=>MS.call O.o k (dL 5 T N aA 0) xaa;have bq:=O.o.g.c0;have ak:=O.o.g.c1;have az:=O.o.g.c2;have aM:=O.o.v.c3;have b:M (∀W:World,_):=λW=>jg W L a2 U m1 K vs.length cap m3 ag xaa;rw[bb]at b;clear bb;conv=>arg 2;whnf
 go_region_with (first
  |(go_at_call 109;refine yai (aE.o _ (((dH W).trans p).trans af)) ?_;rintro e Z ⟨aY,cap',rfl,⟨aw,b2⟩,⟨u1,r1⟩,⟨ap,bp⟩,au,_,bl⟩;have a6:=au 0;have bn:=au 1;have cc:=au 2;clear au)
  |(go_at_call 67;refine yai (b.o _) ?_;rintro e h ⟨rfl,p⟩;have ar:=(MS.keep O.o ((dH W).trans p)).g.c0;have b9:=(MS.keep O.o ((dH W).trans p)).g.c1;have cl:=(MS.keep O.o ((dH W).trans p)).g.c2;have bI:=(MS.keep O.o ((dH W).trans p)).v.c3)
  |(go_at_call 37;refine yai iy ?_;rintro e aa ⟨rfl,af⟩;have b1:=(MS.keep O.o (((dH W).trans p).trans af)).g.c0;have bw:=(MS.keep O.o (((dH W).trans p).trans af)).g.c1;have p2:=(MS.keep O.o (((dH W).trans p).trans af)).g.c2))
 all_goals exact ay _ ⟨_,_,_,⟨rfl,by simp⟩,by simp,bl⟩):Zp:=h
theorem xaw(h:Zp:=by
 go_upto_region 24 with fail;clear c1;exact xag):Zp:=h
theorem xax(h:Zp:=by
 go_wp2_with fail;refine yai (be.o aw.o (StQ.refl _ _ _) xac (by simp[dK]) (by simp[dK]) 3 _ _ _) ?_;rintro e aa ⟨rfl,bm,H,(aK:M _),(V:M _)⟩;have bG:=(g.o.step V.o).at_;have bB:=(j.o.step V.o).at_;clear bh aH aN aM aS aC aP aQ;go_wp2_with fail
 go_region_held3 (λD=>D.cell? ⟨m,0,none⟩=some (ge P)/\D.cell? ⟨t,0,none⟩=some (h0 n)) (go_keep) (first
  |(go_at_call 188;refine yai (u.o (BS.keep aK.o (dH aa)) (Stp.kept V.o (dH aa)) xac (by simp[dK];have:=bc.o;omega) (by simp[dK];have:=bc.o;omega)) ?_;rintro e Z ⟨rfl,bP,ae,J,az⟩;have aT:=Q J;have K:=Q az;have bK:=(g.o.step az).at_;have a9:=(j.o.step az).at_;clear J az)
  |(go_at_call 199;refine yai (be.o aT.o K.o xac (by simp[dK];have:=bc.o;omega) (by simp[dK];have:=bc.o;omega) 8 _ _ _) ?_;rintro e ao ⟨rfl,au⟩;have R3:=Q au;obtain⟨_,_,_,ad⟩:=au;have bK:=(g.o.step ad).at_;have a9:=(j.o.step ad).at_;clear ad))
 all_goals
  go_wp2
  go_ret
  exact⟨rfl,R3.o⟩):Zp:=h
theorem xay(h:Zp:=by
 generalize W.heap.size=bh at aw⊢;have bK:=aw.o.c0;clear c0 c1 c2 V S;go_upto_region 22 with fail;have bi:=aw.o.c2;have aF:=Lib.run_convert_string_bytes (P:=prog) aq 9 22 5 ⟨bv.toArray⟩ underlying9 underlying22 underlying5;have u:M _:=nH aq 5 bv;have bJ:M _:=lg aq 5 ⟨bv.toArray⟩;have bY:(⟨bv.toArray⟩:ByteArray).size=bv.length:=rfl;rw[bY]at aF;have q:(convert 9 22 (dJ bv)).run prog aq=_:=aF;clear aF bY;generalize Lib.bytesWorld aq 5 ⟨bv.toArray⟩=aH at q u bJ;generalize aq.heap.size=U at q u;generalize grownCap aq bv.length 0 5=cv at q;go_upto_region 23 with (go_at_call 14;refine yai (pU aH u.o xaa) ?_;rintro e a7 ⟨f,c,rfl,y,bo⟩);obtain⟨rfl,rfl⟩:=oF bc.o y;have aZ:M _:=bJ.o.trans (bo.kept 0 0);have L:=(aw.o.keep aZ.o).c1;have aL:M _:=aj.o a7 (ay.o.trans aZ.o);clear aj u bJ q bo y bK bi aw aZ ay bc;generalize me bv=a at aL;go_wp2_with (go_at_call 36;refine yai aL.o ?_;rintro e aA ⟨⟨x,rfl⟩,C⟩);go_ret;exact C.o):Zp:=h
theorem xaz(h:Zp:=by
 have aE:M _:=iZ ((bk.o _ U.o.k).cut (i:=i) c.o.2) (cap-i);have aW:=c.o.1;have bK:(0:Int)<=i:=xaa;have a9:(i:Int)<=k:=xaa;have bj:(k:Int)<=cap:=ih c.o.2
 have K:((k:Int)-i).toNat=k-i:=xaa;have aU:=U.o.t.c2;have bN:=U.o.t.fr 2;have aj:=aE.o;go_upto_region 25 with fail;change Code.wp _ _ _ _ (wr.setCell _ (dJ _));have q:M _:=U.o.text (fJ t i k);clear aE aj aU bN aW bK a9 bj K;generalize wr.setCell _ _=aq at q⊢;generalize ar:fJ t i k=x at q;have be:=Q ar;clear ar;obtain⟨_,b2,r1,bp,au⟩:=q.o.r;obtain⟨_,bJ,ba,bu,L⟩:=q.o.t;have a6:=au 0;have bn:=au 1;have cc:=au 2;have R:=Q q.o.fin;clear au L q;go_wp2_with fail;change bodyPost _ _ _ _ _ (((aq.setCell _ (dJ _)).setCell _ _).setCell _ (dJ x));generalize ((aq.setCell _ _).setCell _ _).setCell _ _=bv at R⊢;obtain⟨⟨_,bZ,aS,bO,_⟩,G⟩:=R.o;refine yax (v:=.tuple #[.agg #[dJ iS,h0 i,dJ x],h0 k]) (by simp[results,results29,go_sem,bZ,aS,bO]) rfl ⟨?_,G⟩;rw[b0.o.1,b0.o.2,be.o];rfl):Zp:=h
theorem xba(h:Zp:=by
 rintro e D ⟨rfl,(R:M _)⟩;go_wp2;go_ret;exact⟨rfl,R.o⟩):Zp:=h
theorem xbb(h:Zp:=by
 go_enter func73,ntmps73;go_wp2;go_ret;exact⟨rfl,rfl⟩):Zp:=h
theorem xbc(h:Zp:=by
 go_wp2_with fail
 go_region_held3 (λD=>D.cell? ⟨m,0,none⟩=some (ge P)/\D.cell? ⟨t,0,none⟩=some (h0 n)/\D.cell? ⟨am,2,none⟩=some (h0 v.a)) (go_keep) (first
  |(go_at_call 188;refine yai (u.o (BS.keep aw.o (dH w)) ((StQ.refl _ _ _).trans ⟨(dH w).chg,.inl rfl⟩) xac (by simp[dK]) (by simp[dK])) ?_;rintro e aa ⟨rfl,bm,H,z,ak⟩;have aK:=Q z;have V:=Q ak;have bK:=(g.o.step ak).at_;have a9:=(j.o.step ak).at_;obtain⟨bJ,ba,bu,co,bs,aZ⟩:=o.o _ _ ak;simp only[Nat.zero_add]at ba bu co bs aZ;clear z ak)
  |(go_at_call 199;refine yai (be.o aK.o V.o xac (by simp[dK];have:=bc.o;omega) (by simp[dK];have:=bc.o;omega) 8 _ _ _) ?_;rintro e Z ⟨rfl,au⟩;have bP:=Q au;obtain⟨_,_,_,ad⟩:=au;have bK:=(g.o.step ad).at_;have a9:=(j.o.step ad).at_;obtain⟨bJ,ba,bu,co,bs,aZ⟩:=o.o _ _ ad;simp only[Nat.zero_add]at ba bu co bs aZ;clear ad))
 all_goals
  go_wp2
  go_ret
  exact⟨rfl,bP.o⟩):Zp:=h
theorem xbd(h:Zp:=by
 obtain⟨j,aK,P⟩:∃j:Nat,j=m-1-k/\j<m:=⟨_,rfl,by omega⟩
 have r:m-1-(k:Int)=j:=xaa;obtain⟨rfl,N,am,ah,aj⟩:=o.at_ j P;have aW:=o.box;obtain⟨fn,tmps,assign,body,aY,au⟩:=f _ ⟨j,P⟩ _ u xaa;dsimp only at aY;rw[ah]at aY;rw[r];have al:k+1<=m:=aV;have bw:L.map Fin.val++[j]=(List.range (k+1)).map (λi=>m-1-i):=by rw[List.range_succ,List.map_append,d3,aK];rfl
 have bL:m-1-((k:Int)+1)=j-1:=xaa;clear aK r d3 aV;have z:(0:Int)<=j:=xaa;have J:(j:Int)<m:=xaa;have aL:IntKind.i64.wrap (j-1)=j-1:=by rw[IntKind.wrap_i64];omega
 gi_wp2
 refine au.mono ?_;rintro e y (⟨rfl,q,C⟩|⟨rfl,w⟩)
 ·exact xew
 gi_wp2
 exact xgm):Zp:=h
theorem xbe(h:Zp:=by
 obtain⟨⟨bh,aH,aN,aM,aS,aC⟩,J,aD,P,g,ax,V,O,bl⟩:=Y.op L U m1 K m3 ag;clear Y;unfold MvC;go_enter func114,ntmps114;go_wp2_with fail;rw[ax.o];clear bh aH aN aM aS aC ax;refine eG (wb O xaa ?_);exact no_implicit_lambda% xaq):Zp:=h
theorem xbf(h:Zp:=by
 clear O;unfold PfK;intros;rename_i wc au;obtain⟨q,aY,cap',a,m,O⟩:=au;go_wp2_with fail;refine eG (jZ O xaa (show(q.length:Int)-1=((vs.length:Nat)+2) by have:=b.o.2;have:=f.o.2;have:=a.o.2;omega) ?_);unfold PfK;intros;rename_i y au;obtain⟨aP,aQ,aU,aF⟩:=au;go_wp2_with fail;exact yax (by simp[results,results113,go_sem,aP,aQ,aU]) rfl (MS.finPR O.o aF.o (by rw[a.o.1,f.o.1,b.o.1]<;>simp))):Zp:=h
theorem xbg(h:Zp:=by
 obtain⟨⟨bh,aH,aN,aM,aS,aC⟩,J,aD,P,g,ax,V,O,bl⟩:=Y.op L U m1 K m3 ag;clear Y;unfold MvC;go_enter func114,ntmps114;go_wp2_with fail;exact yax (by simp[results,results114,go_sem]) rfl (rj bl.o (((dE 0 0 w _).trans (dE 0 0 _ _)).trans (dE 0 0 _ _)))):Zp:=h
theorem xbh(h:Zp:=by
 unfold MfK;intros;rename_i y au;obtain⟨aP,aQ,aU,aF⟩:=au;go_wp2_with fail;exact yax (by simp[results,results114,go_sem,aP,aQ,aU]) rfl (MS.finR O.o aF.o (by rw[b.o.1]<;>simp))):Zp:=h
theorem xbi(h:Zp:=by
 have z:=h.keep k;refine(Ao u z.g.own z.g.sz V).mono ?_;rintro e Z ⟨aY,cap',rfl,own,s⟩;rw[h.g.row]at s;have I:=s.chg.block _ z.g.lt (by rintro (c|c);exact c;exact h.g.ne c);have e:∀o,_:=λo=>World.cell?_of_block (a:=⟨w.heap.size,o,none⟩) I;have aj:∀o,_:=λo=>World.frozen?_of_block (a:=⟨w.heap.size,o,none⟩) I;have ab:(vs++[u]).length=vs.length+1:=by simp
 have key:=h.step (vs2:=vs++[u]) (a2':=some ⟨aY,0,none⟩) (cap':=cap') (l:=W.heap.size) (h':=W.heap.size) k (by rw[ab];exact own) (R':=some aY) rfl s ((Kept.refl 0 0 Z).mono λ_ _ c=>by omega) yac (λg _=>by omega);rw[ab]at key;exact⟨_,_,rfl,⟨_,(e 0).trans z.g.c0⟩,⟨_,(e 1).trans z.g.c1⟩,⟨_,(e 2).trans z.g.c2⟩,λo=>by rw[aj];exact z.g.free o,key⟩):Zp:=h
theorem xbj(h:Zp:=by
 have bS:=Q l;clear l;refine eG (vr O xaa (bS.o.2) ?_);unfold MfK;intros;rename_i y au;obtain⟨aP,aQ,aU,aF⟩:=au;go_wp2_with fail;exact yax (by simp[results,results114,go_sem,aP,aQ,aU]) rfl (MS.finR O.o aF.o bS.o.1)):Zp:=h
theorem xbk(h:Zp:=by
 intros;rename_i ay;have aE:M (∀aq,Kept 0 0 W aq->_):=λaq k=>MS.call O.o k (dL 3 T aB aA 0) xaa;have bq:=O.o.g.c0;have ak:=O.o.g.c1;have az:=O.o.g.c2;have aN:=O.o.v.c2;exact xal):Zp:=h
theorem xbl(h:Zp:=by
 unfold PfC;intros;rename_i ay;have aE:M (∀aq,Kept 0 0 W aq->_):=λaq k=>MS.call O.o k (dL 4 T d i 0) xaa;exact xae):Zp:=h
theorem xbm(h:Zp:=by
 generalize f.vs.length=el at*;generalize f.ins.length=bT at*;generalize f.outs.length=ci at*;go_upto_region 33 with (go_at_call 90;refine yai S.o ?_;rintro e cI ⟨⟨L,Y,U,al,a2,ax,rfl,bg,a8,bE,m⟩,cP⟩);have cx:M (∀A,Kept 0 0 cI A->_):=λA ae=>be.o A L Y a2 ax U al (cP.trans ae) (dW bg ae) (dW a8 ae) (dW bE ae) m;have c7:M (∀A,Kept 0 0 cI A->_):=λA ae=>(bf.o.keep (cP.trans ae)).c1;clear bg a8 bE m be S clT b1 bw p2;have bA:=c7.o _ (dE 0 0 cI (eZ L bT Y a2 g.length ax U ci al));have aO:M _:=cx.o _ (dE 0 0 cI (eZ L bT Y a2 g.length ax U ci al));go_wp2_with (go_at_call 89;refine yai aO.o ?_;rintro e bn ⟨⟨x,rfl⟩,C⟩);go_ret;exact C.o):Zp:=h
theorem xbn(h:Zp:=by
 have c1:=bh.o.c k F;have c2:=bh.o.n.t.c2;generalize u:keysL.getD k _=Y at c1;go_upto_region 12 with fail;go_quiet (fail)
 have aZ:M _:=bh.o.keep (ed 0 0 nq);clear c1 c2 bh;generalize wr.drewN _=cI at aZ⊢;have aU:=aZ.o.n.t.c0;have bN:=aZ.o.n.t.fr 0;have cp:=aZ.o.n.t.c2;cases an:(Y==x)
 ·exact xep
 exact xeq):Zp:=h
theorem xbo(h:Zp:=by
 go_wp2_with fail;exact xbs):Zp:=h
theorem xbp(h:Zp:=by
 obtain rfl:k=15:=xaa;have r:=Q bh.o.n;rw[show qB x _=jQ x from rfl]at r;obtain⟨_,b2,r1,bp,au⟩:=r.o.r;obtain⟨_,bJ,ba,bu,L⟩:=r.o.t;have a6:=au 0;have bn:=au 1;have cc:=au 2;have R:=Q r.o.fin;generalize P:jQ x=T at bJ R;have az:=Q P;clear bh au L r P;go_wp2_with fail;change bodyPost _ _ _ _ _ (((wr.setCell _ (dJ _)).setCell _ _).setCell _ (dJ x));generalize ((wr.setCell _ _).setCell _ _).setCell _ _=bv at R⊢;obtain⟨⟨_,bZ,aS,bO,_⟩,G⟩:=R.o;refine yax (v:=.tuple #[.agg #[dJ T,h0 i,dJ x],h0 j]) (by simp[results,results29,go_sem,bZ,aS,bO]) rfl ⟨?_,G⟩;rw[be.o,az.o];rfl):Zp:=h
theorem xbq(h:Zp:=by
 have G:=O.o.len1 aK l;have J:0<=(j:Int):=xaa;have aD:(j:Int)<vs.length:=xaa;clear l;exact xad):Zp:=h
theorem xbr(h:Zp:=by
 have bM:M (r=.error (c,p)):=by show _=_;rw[aF.o,d1.o _ rfl];rfl
 go_wp2_with (go_at_call 33;refine yai ci.o ?_;rintro e a7 ⟨rfl,C⟩);go_ret;rw[bM.o];exact TrO.after d5.o ⟨rfl,C⟩):Zp:=h
theorem xbs(h:Zp:=by
 refine wp_loop_rounds 1 ?_;rw[rounds_succ];go_wp2;go_ret;exact⟨rfl,rfl⟩):Zp:=h
theorem xbt(h:Zp:=by
 obtain⟨⟨bh,aH,aN,aM,aS,aC⟩,J,aD,P,g,ax,V,O,bl⟩:=Y.op L U m1 K m3 ag;clear Y;unfold PtC;go_enter func113,ntmps113;go_wp2_with fail;rw[ax.o];clear bh aH aN aM aS aC ax;refine eG (KK O xaa ?_);exact no_implicit_lambda% xah):Zp:=h
theorem xbu(h:Zp:=by
 obtain⟨⟨bh,aH,aN,aM,aS,aC⟩,J,aD,P,g,ax,V,O,bl⟩:=Y.op L U m1 K m3 ag;clear Y;unfold MvC;go_enter func114,ntmps114;go_wp2_with fail;rw[ax.o];clear bh aH aN aM aS aC ax;refine eG (KJ O xaa ?_);clear O;unfold MfK;intros;rename_i wc au;obtain⟨p,aY,cap',b,G,O⟩:=au;go_wp2_with fail;refine eG (KU O xaa (show(p.length:Int)-1=(vs.length:Nat) by have:=b.o.2;omega) ?_);exact no_implicit_lambda% xbh):Zp:=h
theorem xbv(h:Zp:=by
 obtain⟨⟨bh,aH,aN,aM,aS,aC⟩,J,aD,P,g,ax,V,O,bl⟩:=Y.op L U m1 K m3 ag;clear Y;unfold PtC;go_enter func113,ntmps113;go_wp2_with fail;exact yax (by simp[results,results113,go_sem]) rfl (vo bl.o (((dE 0 0 w _).trans (dE 0 0 _ _)).trans (dE 0 0 _ _)))):Zp:=h
theorem xbw(h:Zp:=by
 have aS:=O.o.v.c4;exact xad):Zp:=h
theorem xbx(h:Zp:=by
 clear a m l f aF bo u i1;go_wp2_with fail;refine yai aE.o ?_;rintro e b7 ⟨c6,k,bU,a7,rfl,bf⟩;have R:M (PtO w P vs0 (i:Int) v la (.returned (.slice c6 k bU)) b7):=PtO.from al.o ⟨c6,k,bU,a7,rfl,bf⟩
 clear bf;go_wp2_with fail;go_ret;exact R.o):Zp:=h
theorem xby(h:Zp:=by
 go_wp2_with (first|(go_at_call 32;refine yai (bX.o _ _ bJ.o) ?_;rintro e ao ⟨rfl,u⟩)|fail);exact xdp):Zp:=h
theorem xbz(h:Zp:=by
 have ab:=pw D.o;generalize Lib.bytesWorld wr 5 ⟨bv.toArray⟩=aH at q u B;generalize wr.heap.size=U at q u;generalize grownCap wr bv.length 0 5=cv at q;go_upto_region 12 with (go_at_call 14;refine yai (pU aH u.o xaa) ?_;rintro e a7 ⟨ca,c,rfl,y,bo⟩);obtain⟨_,rfl⟩:=oF D.o y;have aG:M _:=(bd.o.trans B.o).trans (bo.kept 0 0);clear q u B y bo bT a8 D;exact xdd):Zp:=h
theorem xca(h:Zp:=by
 go_wp2_with fail;refine yai aJ.o ?_;rintro e D ⟨rfl,rfl⟩;go_wp2;go_round
 case rel=>exact⟨k+1,by omega,by go_num,R⟩
 case measure=>simp[intOf];omega):Zp:=h
theorem xcb(h:Zp:=by
 have R:M (E=k):=by show _=_;rw[<-bo.o];exact jq (λh=>by rw[J]at h;cases h.2)
 rw[J]at aJ;generalize bt t k=x at c aJ;clear J;go_wp2_with fail;refine yai aJ.o ?_;rintro e D ⟨rfl,rfl⟩;go_wp2;go_ret;rw[R.o];exact⟨rfl,rfl⟩):Zp:=h
theorem xcc(h:Zp:=by
 go_roundw
 case rel=>exact⟨trivial,k+1,by omega,by go_num,R⟩
 case measure=>simp[intOf];omega):Zp:=h
theorem xcd(h:Zp:=by
 have bY:M (r=.error (c,p)):=by show _=_;rw[bM.o];unfold lT;rw[<-b5.o]
 go_wp2_with (go_at_call 60;refine yai K.o ?_;rintro e a7 ⟨rfl,C⟩);go_ret;rw[bY.o];exact⟨rfl,C.1,C.2.1,((Mv.of ay.o).trans aD.o).bad C.2.2⟩):Zp:=h
theorem xce(h:Zp:=by
 go_wp2_with fail;go_roundw
 case rel=>exact⟨k+1,F,j,by omega,by omega,by go_num,rfl,by rw[R.o],by omega,b,h,ax,au,bd⟩
 case measure=>simp[intOf];omega):Zp:=h
theorem xcf(h:Zp:=by
 go_enter func200,ntmps200;go_wp2_with fail;refine yai (u.o aw.o (StQ.refl _ _ _) xac (by simp[dK]) (by simp[dK])) ?_;rintro e aa ⟨rfl,bm,H,(aK:M _),(V:M _)⟩;go_wp2_with fail;refine yai (be.o aK.o V.o xac (by simp[dK];have:=bc.o;omega) (by simp[dK];have:=bc.o;omega) 8 d _ _) ?_;exact xdu):Zp:=h
theorem xcg(h:Zp:=by
 clear a;go_enter func47,ntmps47
 go_wp2_with (first
  |(go_at_call 46;refine yai O.o ?_;rintro e Z ⟨rfl,X⟩;obtain rfl:=X.symm)
  |(go_at_call 73;refine yai ay.o ?_;rintro e Z ⟨rfl,X⟩;obtain rfl:=X.symm)
  |(go_at_call 44;refine yai bf.o ?_;rintro e Z ⟨rfl,X⟩;obtain rfl:=X.symm)
  |(go_at_call 74;refine yai bu.o ?_;rintro e Z ⟨rfl,X⟩;obtain rfl:=X.symm))
 go_ret;rw[R.o];exact⟨rfl,rfl⟩):Zp:=h
theorem xch(h:Zp:=by
 have R:=Q au;clear au I;go_wp2;go_ret;exact⟨rfl,R.o⟩):Zp:=h
theorem xci(h:Zp:=by
 obtain⟨rfl,rfl,rfl,rfl,rfl⟩|⟨rfl,rfl,rfl,rfl,rfl⟩:=h
 ·exact xfh
 exact xfi):Zp:=h
theorem xcj(h:Zp:=by
 rw[J]at aJ;generalize bt t k=x at c aJ;clear J;exact xca):Zp:=h
theorem xck(h:Zp:=by
 clear O;unfold PfK;intros;rename_i wc au;obtain⟨vs2,aY,cap',f,k,O⟩:=au;go_wp2_with fail;refine eG (jZ O xaa (show(vs2.length:Int)-1=((vs.length:Nat)+1) by have:=b.o.2;have:=f.o.2;omega) ?_);unfold PfK;intros;rename_i y au;obtain⟨aP,aQ,aU,aF⟩:=au;go_wp2_with fail;exact yax (by simp[results,results113,go_sem,aP,aQ,aU]) rfl (MS.finPR O.o aF.o (by rw[f.o.1,b.o.1]<;>simp))):Zp:=h
theorem xcl(h:Zp:=by
 have bM:M (r=.error (c,p)):=by show _=_;rw[aF.o,bS.o _ rfl];rfl
 go_wp2_with (go_at_call 33;refine yai bP.o ?_;rintro e ao ⟨rfl,C⟩);go_ret;rw[bM.o];exact TrO.back ay.o ⟨rfl,C⟩):Zp:=h
theorem xcm(h:Zp:=by
 refine⟨⟨_,_,_,_,aX,⟨bH.bad ⟨aT.chg.os,aT.chg.tape,aT.chg.output,aT.chg.size,λi hi V=>aT.chg.block i hi (λc=>V (.inl c))⟩,λb I=>?_⟩,λb I c=>?_⟩,fR aw aT.chg ar⟩
 ·exact xfc
 obtain d|d:=aT.new b c
 ·grind
 have:=(dO aw I).2;omega):Zp:=h
theorem xcn(h:Zp:=by
 clear ca bO cn b4 aE O;go_wp2_with fail;go_roundw
 case rel=>exact⟨k+1,az,G++[a2],by omega,by omega,by go_num,by rw[yak,aI.o];rfl,cO,bm,d4,eb⟩
 case measure=>simp[intOf];omega):Zp:=h
theorem xco(h:Zp:=by
 clear al a m l f aF bo;go_wp2_with fail;go_ret;exact R.o _ _ (by rw[r.o])):Zp:=h
theorem xcp(h:Zp:=by
 have a0:=fN A (w.heap.size+1) (.slice L n1 K) (.slice a2 vs.length cap) (.slice U aE ag);have I:=h.hb
 have key:∀{e size n:Nat}{v:Value}{G:List _},W.ownsRow base e size v n G->(eY A _ _ _ _).ownsRow w.heap.size e _ v n _:=λav=>
  oT (jG (dW av k) a0 (λg aG=>ih ((dO av aG).1))) xaa
 exact⟨⟨key h.i,key h.g.own,key h.o⟩,Kept.new (h.k.trans k) a0 xaa⟩):Zp:=h
theorem xcq(h:Zp:=by
 go_enter func164,ntmps164;go_upto_region 1 with fail;change Code.wp _ _ _ _ ((w.alloc (.cells _ 203)).alloc (.cells _ 173));generalize ((w.alloc _).alloc _)=Z at*;generalize w.heap.size+1=ae at*;go_region
 all_goals
  go_wp2_with (go_at_call 52;refine yai j4 ?_;rintro e ao ⟨rfl,X⟩;obtain rfl:=X.symm)
  exact⟨rfl,(ay.o.trans (dE 0 0 _ _)).drew,rfl⟩):Zp:=h
theorem xcr(h:Zp:=by
 clear O;unfold MfK;intros;rename_i wc au;obtain⟨p,aY,cap',b,G,O⟩:=au;go_wp2_with fail;refine eG (DU O xaa (show(p.length:Int)-1=(vs.length:Nat) by have:=b.o.2;omega) ?_);exact no_implicit_lambda% xbh):Zp:=h
theorem xcs(h:Zp:=by
 intro i hi;obtain hi|hi:=List.mem_append.1 hi
 ·exact yaj (aK.o i hi) a5.n
 simp at hi;subst hi;exact em):Zp:=h
theorem xct(h:Zp:=by
 rw[dQ]at h;cases z:dQ f st loc a with
 |none=>rw[z]at h;cases h
 |some r1=>
  rw[z]at h;obtain⟨c,p⟩|⟨ak,x⟩:=r1
  ·cases h;exact⟨_,rfl,rfl⟩
  cases h;exact⟨_,rfl,rfl⟩):Zp:=h
theorem xcu(h:Zp:=by
 have i1:M _:=AR Z aa.heap.size (dL ax ar (bG:Nat) (bB:Nat) 0) bK a9 bj bI bR bH;have T:=Q a8;have ab:=Q aD;clear bK a9 bj bI bR bH bZ aS bO bP a8 bS aD;go_wp2_with fail;go_meet;exact⟨aa.heap.size,rfl,i1.o,by simpa[World.frozen?_setCell] using T.o,uy z.o.1 yac,yac,by simpa[go_sem] using ab.o⟩):Zp:=h
theorem xcv(h:Zp:=by
 clear u aZ;go_wp2_with fail;go_roundw
 case rel=>exact⟨k+1,by omega,by go_num,R⟩
 case measure=>simp[intOf];omega):Zp:=h
theorem xcw(h:Zp:=by
 go_wp2_with (first|(go_at_call 32;refine yai (bX.o _ _ ai.o) ?_;rintro e a7 ⟨rfl,u⟩)|fail);go_ret;rw[R.o];exact⟨rfl,u.c5,u.c6,(Mv.of ai.o).bad u.chg⟩):Zp:=h
theorem xcx(h:Zp:=by
 have u:=h.o;go_wp2_with fail;go_ret;exact R.o _ _ (by rw[h.o])):Zp:=h
theorem xcy(h:Zp:=by
 go_wp2_with (go_at_call 167;refine yai V.o ?_;rintro e ao ah;have bY:=Q ah;obtain⟨st2,a,aC,K,rfl,_⟩|⟨c,q,K,rfl,_⟩:=ah;rotate_left;exact h1 rfl (by rw[aE.o];exact TqR.after aV.o.1 aV.o.2 (TqR.afterK I.o bY.o));clear K);go_ret;rw[aE.o];exact TqR.after aV.o.1 aV.o.2 (TqR.afterK I.o bY.o)):Zp:=h
theorem xcz(h:Zp:=by
 clear I;go_wp2;exact xcc):Zp:=h
theorem xda(h:Zp:=by
 have ar:fr+k<G.length:=xaa
 have:=aw.cells (g:=g) rfl (fr+k) (h0 (G.getD (fr+k) 0:Nat)) (by
  unfold ie
  rw[List.getElem?_map,yal ar,yah,yal ar];rfl)
 rw[fL,Nat.zero_add]at this;rw[this,yah,yah,List.getElem?_drop]):Zp:=h
theorem xdb(h:Zp:=by
 refine⟨by simp[f.1],λj u x bd ar=>?_⟩;obtain c|c:=Nat.lt_or_ge j vs.length
 ·exact xfv
 exact xgd):Zp:=h
theorem xdc(h:Zp:=by
 go_region_with (first
  |(go_at_call 37;refine yai iy ?_;rintro e ao ⟨rfl,a5⟩;have f:=(aX.o.keep ((dH Z).trans a5)).c1)
  |(go_at_call 36;refine yai (b5.o _ (bJ.o.trans ((dH Z).trans a5))) ?_;rintro e a7 ⟨⟨x,rfl⟩,C⟩))
 all_goals (go_wp2_with fail;go_ret;rw[R.o];exact C.o)):Zp:=h
theorem xdd(h:Zp:=by
 go_wp2_with fail;go_roundw
 case rel=>exact⟨i+1,by omega,by go_num,aG⟩
 case measure=>simp[intOf];omega):Zp:=h
theorem xde(h:Zp:=by
 have an:M _:=dE 0 0 w;go_wp2_with (first|(go_at_call 48;refine yai (bu.o _ (an.o _)) ?_;rintro e Z ⟨rfl,ad⟩;unfold tkV)|(go_at_call 81;refine yai (aF.o _ ((an.o _).trans ad)) ?_;rintro e ao ⟨rfl,a5⟩));exact⟨rfl,.inr ⟨_,rfl,bC.o,(((an.o _).trans ad).trans a5).chg⟩⟩):Zp:=h
theorem xdf(h:Zp:=by
 obtain rfl:k=n:=xaa;have R:M (E=k):=by show _=_;rw[<-bo.o];exact jq (λh=>by rw[be.o]at h;omega)
 go_wp2;go_ret;rw[R.o];exact⟨rfl,rfl⟩):Zp:=h
theorem xdg(h:Zp:=by
 go_region_with (first
  |(go_at_call 37;refine yai iy ?_;rintro e ao ⟨rfl,a5⟩;have f:=(aX.o.keep ((dH Z).trans a5)).c1)
  |(go_at_call 36;refine yai (aj.o _ ((dH Z).trans a5)) ?_;rintro e a7 ⟨⟨x,rfl⟩,C⟩))
 all_goals (go_wp2_with fail;go_ret;exact C.o)):Zp:=h
theorem xdh(h:Zp:=by
 go_wp2_with (go_at_call 62;refine yai b.o ?_;rintro e Z ⟨rfl,u⟩);exact xek):Zp:=h
theorem xdi(h:Zp:=by
 generalize aa.heap.size=bh at*;go_wp2_with (go_at_call 169;refine yai (bu.o _ al.o) ?_;rintro e bn ah;have u:=Q ah;obtain⟨st2,a,aC,K,rfl,_⟩|⟨c,q,K,rfl,_⟩:=ah;rotate_left;exact h1 rfl (TqR.afterK al.o u.o);clear K);go_ret;exact TqR.afterK al.o u.o):Zp:=h
theorem xdj(h:Zp:=by
 obtain⟨z,_⟩|⟨z,J⟩:=yq y
 ·exact xhe
 exact xeu):Zp:=h
theorem xdk(h:Zp:=by
 have bD:(G.take fr).length=fr:=by rw[List.length_take];omega
 rw[bD];refine⟨by unfold ie;rw[List.length_map,bD,Nat.mul_one],.inr ⟨g,cap,bp,rfl,L,bi,by omega,ae,aF,?_⟩⟩;rw[Nat.mul_one]at ah⊢;unfold ie at ah⊢;rw[List.map_take,<-ah,List.take_take,Nat.min_eq_left xaa]):Zp:=h
theorem xdl(h:Zp:=by
 have c:∀o,(eY aa _ _ _ _).cell? _=aa.cell? ⟨_,o,none⟩:=λo=>a0.cell ar (by simp_all);have bC:∀o,(eY aa _ _ _ _).frozen? _=aa.frozen? ⟨_,o,none⟩:=λo=>a0.frozen ar (by simp_all);exact⟨yaj ar a0.size,by grind,by grind,by grind,by grind,by grind,by grind⟩):Zp:=h
theorem xdm(h:Zp:=by
 clear ce a ai af c av bo;exact xcx):Zp:=h
theorem xdn(h:Zp:=by
 go_wp2_with fail;go_roundw
 case rel=>exact⟨trivial,j+1,by omega,by go_num,by rw[R.o],by rw[R.o]⟩
 case measure=>simp[intOf];omega):Zp:=h
theorem xdo(h:Zp:=by
 go_enter func85,ntmps85;go_wp2;go_ret;exact⟨rfl,rfl⟩):Zp:=h
theorem xdp(h:Zp:=by
 go_ret;rw[R.o];exact⟨rfl,u.c5,u.c6,(Mv.of bJ.o).bad u.chg⟩):Zp:=h
theorem xdq(h:Zp:=by
 go_roundw
 case rel=>exact⟨k+1,by omega,by go_num,R3⟩
 case measure=>simp[intOf];omega):Zp:=h
theorem xdr(h:Zp:=by
 refine⟨J.bad ⟨ak.os,ak.tape,ak.output,ak.size,λi hi V=>ak.block i hi (λc=>V (.inr c))⟩,λb I=>?_⟩;obtain c|c:=I
 ·exact J.new b (.inl c)
 exact xgi):Zp:=h
theorem xds(h:Zp:=by
 go_wp2_with (go_at_call 33;refine yai bP.o ?_;rintro e Z ⟨rfl,C⟩);go_ret;rw[aF.o];exact TrO.back ay.o ⟨rfl,C⟩):Zp:=h
theorem xdt(h:Zp:=by
 obtain⟨bT,bg,_,_,cx,bL⟩:=aG.o A ae;have lb:=(V.o.keep ae).lt;have eT:=yaj aJ ae.size;exact⟨(cv.cell (p:=⟨bh,1,none⟩) lb cX).trans bg,(cv.cell (p:=⟨gf,of,none⟩) eT cz).trans cx,(cv.cell (p:=⟨gf,of+1,none⟩) eT cz).trans bL⟩):Zp:=h
theorem xdu(h:Zp:=by
 rintro e ao ⟨rfl,(R:M _)⟩;go_wp2;go_ret;exact⟨rfl,R.o⟩):Zp:=h
theorem xdv(h:Zp:=by
 go_wp2_with (first|(go_at_call 111;refine yai (bM.o _) ?_;rintro e b7 ⟨rfl,rfl⟩)|fail);clear aQ bK a9 bj bI bR bH;go_roundw
 case rel=>exact⟨i-1,j+1,by go_num,ih gA.o,ih gA.o,bP⟩
 case measure=>simp[intOf];omega):Zp:=h
theorem xdw(h:Zp:=by
 refine⟨_,j _ (nN xaa) (λb I=>?_) (lj _ _ _)⟩;exact xei):Zp:=h
theorem xdx(h:Zp:=by
 rw[l]at aD;subst aD;obtain c|c:=ce
 ·exact F _ H c
 have:=(dO av H).2;omega):Zp:=h
theorem xdy(h:Zp:=by
 have aL:=dE 0 0 Z (ir ax ar (bG:Nat) (bB:Nat) 0 0);go_wp2_with fail;go_meet;exact⟨Z.heap.size,rfl,iB Z (dL ax ar (bG:Nat) (bB:Nat) 0),(eo Z _ _ (ib).chg (S:=λ_=>False) (λc=>c)).2.1 4,z.o.1.trans aL,z.o.1.size,by simp⟩):Zp:=h
theorem xdz(h:Zp:=by
 clear f ab V aL e;generalize dK _=T at be bu aj;go_enter func66,ntmps66;go_wp2_with fail;refine yai be.o ?_;rintro e Z ⟨rfl,ad⟩;have R:M _:=Kept.trans ay.o ad;clear ad be;go_wp2;go_ret;exact⟨rfl,R.o⟩):Zp:=h
theorem xea(h:Zp:=by
 subst aD;have f:(Value.slice a2 (vs0++Maa.1).length cap).ownBlock≠some (w.heap.size+1):=it h.g.row h.n1
 exact⟨_,_,_,rfl,dP (dP (dP (dW h.g.own k) f) f) f,h.g.row,(h.s.keepQ k).new (fN _ _ _ _ _) xaa⟩):Zp:=h
theorem xeb(h:Zp:=by
 intro g9 cap9 n9 bn b4 ca bO cn;have aG:M _:=pt yac s.o b.o bO;have R:=Q ca;rw[ah.o]at R;clear ca bO cn b4 aE O b s;go_wp2_with fail;try rw[Exit.noGoto_ret]
 go_ret;exact⟨_,rfl,R.o,aG.o⟩):Zp:=h
theorem xec(h:Zp:=by
 obtain c|c|c|c|c:=I
 ·exact .inl (.inl c)
 ·exact .inr (yan f (dO r1 c).1)
 ·exact .inr (yan f (dO bp c).1)
 ·exact .inr (yan f (dO bo c).1)
 exact .inl (.inr (.inr (.inr (.inr c))))):Zp:=h
theorem xed(h:Zp:=by
 unfold MfK;intros;rename_i y au;obtain⟨aP,aQ,aU,aF⟩:=au;go_wp2_with fail;exact yax (by simp[results,results114,go_sem,aP,aQ,aU]) rfl (MS.finR O.o aF.o (by rw[a.o.1,f.o.1,b.o.1]<;>simp))):Zp:=h
theorem xee(h:Zp:=by
 go_enter func39,ntmps39;go_wp2;go_ret;exact⟨by simp,rfl⟩):Zp:=h
theorem xef(h:Zp:=by
 go_wp2_with fail;exact xdq):Zp:=h
theorem xeg(h:Zp:=by
 have z:∀g,(Value.slice _ _ _).ownBlock=some g->R≠some g:=λg aG=>by rw[<-h.g.row];exact F g aG
 refine⟨z,λc=>?_,λg aG=>?_⟩
 ·have:=(dO av c).1;have:=h.hb;omega
 rw[X];exact a g (dO av aG).2 (z g aG)):Zp:=h
theorem xeh(h:Zp:=by
 go_upto_region 23 with fail;go_region
 all_goals (
  go_wp2_with fail
  refine yax (v:=.tuple #[tG,h0 c,h0 p]) (by simp[results,results4,go_sem,bK,a9,aU]) rfl ?_
  rw[bk.o]
  exact⟨rfl,R.o⟩)):Zp:=h
theorem xei(h:Zp:=by
 unfold lI;rw[h2 xaa];exact C.rN b (yan c.size I)):Zp:=h
theorem xej(h:Zp:=by
 obtain⟨_,_,_,_,_,_,C⟩:=h;obtain⟨bv,bz,_⟩:=C.f;refine⟨C.sz,C.v.lt,bz.lt,λy aY q e=>?_⟩;obtain⟨K,_⟩|⟨ai,K,_,ag⟩:=(C.l y aY).2.1
 ·rw[e]at K;cases K
 rw[e]at K;cases K;exact ag.lt):Zp:=h
theorem xek(h:Zp:=by
 go_ret;rw[aF.o];exact⟨rfl,u.c5,u.c6,(Mv.of ay.o).bad u.chg⟩):Zp:=h
theorem xel(h:Zp:=by
 go_enter func61,ntmps61;go_wp2;go_ret;exact⟨rfl,rfl⟩):Zp:=h
theorem xem(h:Zp:=by
 have z:=bp.o;rw[yao (by rw[H.o];decide),b6.o]at z;exact h4 z):Zp:=h
theorem xen(h:Zp:=by
 show _=_;rw[<-b0.o,pr (it bg.o aV) ax.o aX.o ce.o,bS.o,List.append_assoc];rfl):Zp:=h
theorem xeo(h:Zp:=by
 rw[List.drop_succ_cons,List.drop_succ_cons,List.drop_zero,show ts++[c,n,q]=(ts++c::[n])++[q] by simp,List.take_append_of_le_length yaf,yao yaf]):Zp:=h
theorem xep(h:Zp:=by
 have R:M _:=aZ.o.miss F (by rw[u];intro c;rw[c]at an;simp at an);exact xcv):Zp:=h
theorem xeq(h:Zp:=by
 have R:M _:=aZ.o.hit F (by rw[u];simpa using an);exact xcv):Zp:=h
theorem xer(h:Zp:=by
 go_enter func43,ntmps43;go_wp2_with (go_at_call 40;refine yai aF.o ?_;rintro e Z ⟨rfl,X⟩;obtain rfl:=X.symm);go_ret;rw[R.o];exact⟨rfl,rfl⟩):Zp:=h
theorem xes(h:Zp:=by
 obtain⟨_,rfl⟩:=oF aA y;clear q u B y bo bT bg a8 D aA p;exact xdd):Zp:=h
theorem xet(h:Zp:=by
 rw[e];clear e;go_enter func44,ntmps44;go_wp2;go_ret;exact⟨rfl,rfl⟩):Zp:=h
theorem xeu(h:Zp:=by
 refine⟨?_,J⟩;obtain⟨a1,a2⟩|⟨a1,a2,a3⟩:=z<;>obtain⟨L,bi⟩|⟨L,bi,U⟩:=aj
 ·rw[a2,bi]
 ·exact absurd L a1
 ·exact absurd a1 L
 rw[a3,U]):Zp:=h
theorem xev(h:Zp:=by
 obtain rfl:j=n:=xaa;clear a0 b aY;go_wp2;go_ret;exact⟨rfl,f.o,c⟩):Zp:=h
theorem xew(h:Zp:=by
 have s:=h _ _ C o;gi_wp2
 go_roundw
 case rel=>exact⟨_,_,al,by rw[<-bL];push_cast;rfl,by rw[List.map_append];exact bw,s,q⟩
 case measure=>simp[intOf]):Zp:=h
theorem xex(h:Zp:=by
 rintro (c|c|c|c|c)
 ·have:=h.lt;omega
 ·have:=(dO h.r1 c).2;omega
 ·have:=(dO h.r2 c).2;omega
 ·have:=(dO h.r3 c).2;omega
 have:=(dO h.r4 c).2;omega):Zp:=h
theorem xey(h:Zp:=by
 rw[e];go_enter func55,ntmps55;go_wp2;go_ret;exact⟨rfl,rfl⟩):Zp:=h
theorem xez(h:Zp:=by
 rw[show 0x7ff0000000000000=9218868437227405312 from rfl,e];refine⟨?_,N8 xaa⟩;rw[show f64.read _=_ from rG xaa xaa];rfl):Zp:=h
theorem xfa(h:Zp:=by
 rw[av]at bh;have R:M (PtO w P vs0 i v la _ _):=PtO.empty ai.o (i0 av);clear ce a ai af c av bo;go_wp2_with fail;go_ret;exact R.o):Zp:=h
theorem xfb(h:Zp:=by
 rw[yah,yal ab]at h;simp only[Option.getD_some]at h;rw[yas ab];grind):Zp:=h
theorem xfc(h:Zp:=by
 obtain c|c:=I
 ·exact xgs
 exact bH.new b (.inr c)):Zp:=h
theorem xfd(h:Zp:=by
 go_enter func181,ntmps181;go_wp2;go_ret;exact⟨rfl,rfl⟩):Zp:=h
theorem xfe(h:Zp:=by
 go_enter func183,ntmps183;go_wp2;go_ret;exact⟨rfl,rfl⟩):Zp:=h
theorem xff(h:Zp:=by
 go_enter func151,ntmps151;go_wp2;go_ret;exact⟨rfl,rfl⟩):Zp:=h
theorem xfg(h:Zp:=by
 rintro⟨g,cap,bp,K,L,bi,U⟩;refine⟨g,_,_,K,L,?_,U⟩;have aG:g<W.heap.size:=by grind
 rw[c.block g aG (aZ g (i0 K))];exact bi):Zp:=h
theorem xfh(h:Zp:=by
 go_enter func102,ntmps102;go_wp2;go_ret;exact⟨rfl,rfl⟩):Zp:=h
theorem xfi(h:Zp:=by
 go_enter func118,ntmps118;go_wp2;go_ret;exact⟨rfl,rfl⟩):Zp:=h
theorem xfj(h:Zp:=by
 rintro e bn I;obtain⟨rfl,au⟩:=Bd.cast (by rw[Dx]) (Bd.kept ay.o I);exact xch):Zp:=h
theorem xfk(h:Zp:=by
 rintro e bn I;obtain⟨rfl,au⟩:=Bd.cast (by rw[Dy]) (Bd.kept ay.o I);exact xch):Zp:=h
theorem xfl(h:Zp:=by
 go_wp2_with (go_at_call 33;refine yai cA.o ?_;rintro e ao ⟨rfl,C⟩);go_ret;rw[aF.o];exact TrO.after ch.o ⟨rfl,C⟩):Zp:=h
theorem xfm(h:Zp:=by
 go_wp2_with (go_at_call 33;refine yai bP.o ?_;rintro e ao ⟨rfl,C⟩);go_ret;rw[aF.o];exact TrO.back bJ.o ⟨rfl,C⟩):Zp:=h
theorem xfn(h:Zp:=by
 clear b c a0 aY f;go_wp2;go_roundw
 case rel=>exact⟨j+1,by omega,by go_num,by go_num,bm,bP.o⟩
 case measure=>simp[intOf];omega):Zp:=h
theorem xfo(h:Zp:=by
 rw[ew]at ef;go_wp2;go_roundw
 case rel=>exact⟨q+1,by omega,i0 ef.o,by go_num,bm,bP⟩
 case measure=>simp[intOf];omega):Zp:=h
theorem xfp(h:Zp:=by
 intro g cap D z J al _;have e:vs.length+1=(vs++[Value.iface T y]).length:=by grind
 rw[e]at z⊢;exact h g _ _ _ rfl z (eD J) al):Zp:=h
theorem xfq(h:Zp:=by
 obtain c|c|c|c|c:=I
 ·subst c;exact z.lt
 ·exact(dO z.r1 c).2
 ·exact(dO z.r2 c).2
 ·exact(dO z.r3 c).2
 exact(dO z.r4 c).2):Zp:=h
theorem xfr(h:Zp:=by
 clear t u bH;go_wp2_with fail;refine yai aJ.o ?_;rintro e D ⟨rfl,rfl⟩;go_wp2;go_ret2
 exact⟨0,2,rfl,R.o,bC⟩):Zp:=h
theorem xfs(h:Zp:=by
 go_wp2_with (go_at_call 95;refine yai bf.o ?_;rintro e Z ⟨rfl,X⟩;obtain rfl:=X.symm);go_ret;exact⟨rfl,rfl⟩):Zp:=h
theorem xft(h:Zp:=by
 clear b0 cx;go_wp2_with fail;go_roundw
 case rel=>exact⟨j+1,by omega,by go_num,aZ,R⟩
 case measure=>simp[intOf];omega):Zp:=h
theorem xfu(h:Zp:=by
 obtain⟨g,c,e,_,aG,_,bo⟩:=jX h.g.own V rfl;injection e with K a6 ag;subst K;exact⟨g,rfl,h.g.row.symm,aG,bo.at_⟩):Zp:=h
theorem xfv(h:Zp:=by
 rw[yar c]at bd;rw[yar (iv f.1 c)]at ar;exact f.2 j u x bd ar):Zp:=h
theorem xfw(h:Zp:=by
 clear q u B;go_wp2_with fail;go_roundw
 case rel=>exact⟨i+1,by omega,by go_num,bd⟩
 case measure=>simp[intOf];omega):Zp:=h
theorem xfx(h:Zp:=by
 obtain rfl:k=m:=xaa;have z:¬(0<=(k:Int)-1-k):=xaa;gi_wp2
 go_end0
 exact⟨⟨_,rfl⟩,.inl ⟨_,d3,u⟩⟩):Zp:=h
theorem xfy(h:Zp:=by
 go_wp2;go_roundw
 case rel=>exact⟨j+1,_,_,by omega,by go_num,rfl,by go_num,R,o⟩
 case measure=>simp[intOf];omega):Zp:=h
theorem xfz(h:Zp:=by
 go_wp2;go_roundw
 case rel=>exact⟨trivial,j,by omega,by go_num,aF⟩
 case measure=>simp[intOf];have:=br.o;omega):Zp:=h
theorem xga(h:Zp:=by
 clear I;go_wp2_with fail;go_roundw
 case rel=>exact⟨k+1,by omega,by go_num,aF⟩
 case measure=>simp[intOf];omega):Zp:=h
theorem xgb(h:Zp:=by
 go_wp2_with (go_at_call 33;refine yai s.o ?_;rintro e Z ⟨rfl,C⟩);go_ret;rw[aF.o];exact⟨rfl,C⟩):Zp:=h
theorem xgc(h:Zp:=by
 intro j u h;rw[fL,Nat.zero_add,yat];match j,h with
 |0,h=>exact h
 |1,h=>exact h
 |2,h=>exact h):Zp:=h
theorem xgd(h:Zp:=by
 rw[yaq c]at bd;rw[yaq (iv f.1 c),<-f.1]at ar;grind):Zp:=h
theorem xge(h:Zp:=by
 go_wp2;go_roundw
 case rel=>exact⟨j+1,by omega,by have:=cb.o;go_num,bm⟩
 case measure=>simp[intOf];omega):Zp:=h
theorem xgf(h:Zp:=by
 go_wp2_with (go_at_call 64;refine yai bP.o ?_;rintro e a7 ⟨⟨x,rfl⟩,C⟩);go_ret;exact C.o):Zp:=h
theorem xgg(h:Zp:=by
 rw[dR (.inl (Ne.symm h)),dR (.inl (Ne.symm h)),dR (.inl (Ne.symm h))]):Zp:=h
theorem xgh(h:Zp:=by
 rw[yah,yal (it aI.o cz)];exact List.getElem_mem _):Zp:=h
theorem xgi(h:Zp:=by
 rw[l]at c;subst c;obtain e|e:=bL
 ·exact J.new g9 (.inr e)
 exact .inr (ih J.chg.size)):Zp:=h
theorem xgj(h:Zp:=by
 go_roundw
 case rel=>exact⟨j+1,by omega,by go_num,bV.o.trans b0,cO⟩
 case measure=>simp[intOf];omega):Zp:=h
theorem xgk(h:Zp:=by
 obtain e|⟨r,e,ah⟩:=b.row
 ·rw[e];exact a.row
 exact .inr ⟨r,e,yan a.chg.size ah⟩):Zp:=h
theorem xgl(h:Zp:=by
 clear U ce a ai l af c bH n1 av;exact xcx):Zp:=h
theorem xgm(h:Zp:=by
 refine yax (results_none rfl _ _ _) rfl ?_;exact⟨⟨_,rfl⟩,.inr ⟨_,trivial,w⟩⟩):Zp:=h
theorem xgn(h:Zp:=by
 obtain⟨⟨aH,aN,aM,aS,z,J,al⟩,bw⟩:=h;exact⟨⟨_,_,_,_,z.keep k,J.keep k,al⟩,dW bw k⟩):Zp:=h
theorem xgo(h:Zp:=by
 refine⟨_,rfl,λ_=>(DI a.o f.o xaa n1).cast ?_,λI=>?_⟩
 ·grind[iR]
 grind[i8]):Zp:=h
theorem xgp(h:Zp:=by
 go_wp2_with fail;go_ret;exact⟨congrArg (λx=>Ending.returned (.bool x)) bP.o.symm,aZ.o⟩):Zp:=h
theorem xgq(h:Zp:=by
 go_roundw
 case rel=>exact⟨trivial,j+1,by omega,by go_num,R⟩
 case measure=>simp[intOf];omega):Zp:=h
theorem xgr(h:Zp:=by
 go_wp2;go_roundw
 case rel=>exact⟨k+1,by omega,by go_num,bm⟩
 case measure=>simp[intOf];omega):Zp:=h
theorem xgs(h:Zp:=by
 obtain d|d:=aT.new b c
 ·exact bH.new b (.inl d)
 exact .inr (yan bH.chg.size d)):Zp:=h
theorem xgt(h:Zp:=by
 rw[yah,yal hi]at h;grind[List.set_getElem_self]):Zp:=h
theorem xgu(h:Zp:=by
 obtain⟨h,aC⟩|⟨g,cap,bp,z,_⟩:=f.2
 ·exact⟨_,0,by rw[h,aC]⟩
 exact⟨_,_,z⟩):Zp:=h
theorem xgv(h:Zp:=by
 go_wp2_with fail;refine yai aJ.o ?_;rintro e D ⟨rfl,rfl⟩;go_wp2;grind[intOf]):Zp:=h
theorem xgw(h:Zp:=by
 have:=((aC.nb i hi).mv bc).weak (M':=Mst P aH aN aM aS) (λb I=>.inl I);rw[aq];exact this):Zp:=h
theorem xgx(h:Zp:=by
 rw[dR (.inl b5),dR (.inl b5),dR (.inl b5)];exact p):Zp:=h
theorem xgy(h:Zp:=by
 rintro e Z ⟨aY,cap',rfl,own,s⟩;rw[h.g.row]at s;exact⟨_,_,rfl,h.next k own s⟩):Zp:=h
theorem xgz(h:Zp:=by
 simp only[List.append_nil];exact⟨_,_,_,rfl,dW h k,rfl,(StQ.refl _ _ w).keepQ k⟩):Zp:=h
theorem xha(h:Zp:=by
 split
 ·exact .err xab
 split
 ·exact .err xab
 exact j7 _ _ _):Zp:=h
theorem xhb(h:Zp:=by
 clear aC z J;exact xel):Zp:=h
theorem xhc(h:Zp:=by
 have:(bp.toList.take (n*1))[k]? =(G.map (Value.int .i64))[k]?:=by rw[ah]
 grind):Zp:=h
theorem xhd(h:Zp:=by
 simp only[Result.andThen];rw[Oper.upon_value];go_wp2;go_ret;exact⟨rfl,rfl⟩):Zp:=h
theorem xhe(h:Zp:=by
 exfalso;obtain⟨al,_⟩|⟨_,al,_⟩:=aj
 ·exact al z.1
 have:=z.2;omega):Zp:=h
theorem xhf(h:Zp:=by
 unfold val;rw[Nat.pow_zero,Nat.mul_one,Nat.mul_assoc,Nat.pow_sub_mul_pow 2 h]):Zp:=h
theorem xhg(h:Zp:=by
 obtain⟨a,b,n,c⟩:=jO g ys p aY e;exact⟨a,b.trans l,λj aK=>(c j aK).1⟩):Zp:=h
theorem xhh(h:Zp:=by
 simp only[binOp];simp[run_equal_slice_nil w 23 3 none 0 0 underlying23]):Zp:=h
theorem xhi(h:Zp:=by
 clear bR;exact xdo):Zp:=h
theorem xhj(h:Zp:=by
 rw[e];go_enter func31,ntmps31;go_wp2;go_ret;exact⟨rfl,rfl⟩):Zp:=h
theorem xhk(h:Zp:=by
 rw[e];go_enter func42,ntmps42;go_wp2;go_ret;exact⟨rfl,rfl⟩):Zp:=h
theorem xhl(h:Zp:=by
 go_enter func195,ntmps195;go_wp2;go_ret;exact⟨rfl,bi.o⟩):Zp:=h
theorem xhm(h:Zp:=by
 go_enter func207,ntmps207;go_wp2;go_ret;exact⟨rfl,rfl⟩):Zp:=h
theorem xhn(h:Zp:=by
 go_wp2_with fail;go_meet;exact⟨_,_,r,_,_,_,rfl,rfl,rfl,ds,bP,R3⟩):Zp:=h
theorem xho(h:Zp:=by
 by_cases c:q=j
 ·subst c;rw[ab];exact I
 exact bo.o q xaa):Zp:=h
theorem xhp(h:Zp:=by
 obtain⟨_,_,_,_,_,_,C⟩:=h;exact⟨C.rN _ yac,C.r0⟩):Zp:=h
theorem xhq(h:Zp:=by
 intro i hi c;by_cases e:i=k
 ·grind
 exact h.digit i xaa c):Zp:=h
theorem xhr(h:Zp:=by
 rw[yas ab,List.mem_append];simp_all):Zp:=h
theorem xhs(h:Zp:=by
 go_wp2_with fail;go_meet;exact⟨_,_,r,_,_,_,rfl,rfl,ds,bP,R3⟩):Zp:=h
theorem xht(h:Zp:=by
 rw[<-V];exact dP aw (λq=>cr (by simpa[Value.ownBlock] using q))):Zp:=h
theorem xhu(h:Zp:=by
 obtain⟨g,e,z,J,al⟩:=aL.o aC;exact⟨g,e,z,J.keep a5,al⟩):Zp:=h
theorem xhv(h:Zp:=by
 clear i1 ad bp;go_wp2_with fail;go_meet;exact⟨_,_,_,rfl,bm⟩):Zp:=h
theorem xhw(h:Zp:=by
 have:=gc.o k e2;exact⟨(fld v k).toNat,by omega,by omega⟩):Zp:=h
theorem xhx(h:Zp:=by
 obtain⟨c,p⟩|x:=r
 ·exact .err (h c p rfl)
 exact .ok):Zp:=h
theorem qaa(h:Zp:=by
 have be:M (∀{aa:World}{a:List _}{bm:Option _}{Y:Value},BS _ P u1 u3 (us++a) (c+dK a) base _ Y->Stp P R w bm aa->a.length<=10->-100000<=dK a->dK a<=100000->∀ax p q r,_):=λh s ar b9 cl ax p q r=>kI h s (ih B.l) (ih B.c0) (ih B.c1) ax n p q r bH n1;have u:M (∀{aa:World}{a:List _}{bm:Option _}{Y:Value},BS aa P u1 u3 (us++a) (c+dK a) base _ Y->Stp P R w bm _->a.length<=10->-100000<=dK a->dK a<=100000->_):=λh s ar b9 cl=>j8 h s (ih B.l) (ih B.c0) (ih B.c1) n bH n1;have aw:M (BS w P u1 u3 (us++[]) (c+dK []) base R Y):=by show BS _ _ _ _ _ _ _ _ _;simpa[dK] using h
 have bc:M (-1000<=n/\n<=1000):=⟨bH,n1⟩
 have g:=Q l;have j:=Q b;exact qab):Zp:=h
theorem qac(h:Zp:=by
 have dv:M (∀o,((w.alloc (eZ G n1 c1 (some ⟨aJ,0,none⟩) aI c2 Y aE c3)).alloc io).frozen? ⟨w.heap.size,o,none⟩=false):=λo=>by simp
 have bb:=jY (w.alloc (eZ G n1 c1 (some ⟨aJ,0,none⟩) aI c2 Y aE c3));rw[show(w.alloc _).heap.size=w.heap.size+1 by simp]at bb;have aF:=Q bb;have gi:M _:=xq G Y n1 c1 c2 aE c3 s x (bC.keep aB yaa) cl ai ar be cn;have gl:M _:=λW k=>we W c1 c2 c3 (f.keep (aB.trans k)) b9 xaa el;have gd:M (∀W,Kept 0 0 _ W->_):=λW k=>((bC.keep (aB.trans k) yaa).at_ x ar).c1;have O:=Q f.v.len;have T:=Q bD;have e7:=Q cn;have am:=Q be;have em:=Q ap;have cz:M (SzU 2000 _ _):=⟨ih f.v.len,jH _ (λj aK=>ih (bD j (by have:=f.v.len;omega))),cO⟩
 have cG:(0:Int)<=x:=xaa;have cv:(x:Int)<aI:=xaa;have ay:(0:Int)<=s:=xaa;have cp:(s:Int)<aI:=xaa;have eN:((w.alloc (eZ G n1 c1 (some ⟨aJ,0,none⟩) aI c2 Y aE c3)).alloc io).heap.size=w.heap.size+1+1:=by simp
 clear bb aB f ap cO bD cn be;go_enter func88,ntmps88;go_wp2_with fail;refine yai gi.o ?_;rintro e aa ⟨aH,rfl,bo,go,af⟩;rw[eN]at go;obtain⟨_,b1,bw,p2⟩:=aw.o.keep af;have fz:=gd.o _ af;generalize gs:(vs.getD x _).len=d5 at fz;have fT:=Q gs;clear gs gd gi;have b0:M (BR _ aH _):=bo;have bV:=Q af;clear bo af;go_wp2_with fail;clear fz;refine yai (gl.o _ bV.o) ?_;rintro e Z ⟨L,aW,a2,bA,U,bs,rfl,ca,b6,aO,⟨bg,a8,bE⟩,ad⟩;have bN:w.heap.size+1+1<=aa.heap.size:=ih bV.o.size
 have bf:M _:=LK.start O.o aw.o dv.o aF.o (bV.o.trans ad) bN ad.size ca b6 aO bg a8 bE;have ew:M (BR (eY _ _ (.slice L n1 aW) (.slice a2 aI bA) (.slice U aE bs)) aH _):=BR.keep (BR.keep b0.o ad yaa) (fN _ w.heap.size _ _ _) (.inr (.inl xaa));have ga:M (Farb w _ _ _ _ _ _ _ aH):=⟨go,λc=>ip ((dO b6 c).1) ((BR.lt b0.o)),λc=>ip ((dO ca c).1) ((BR.lt b0.o)),λc=>ip ((dO aO c).1) ((BR.lt b0.o))⟩
 exact qad):Zp:=h
theorem qae(h:Zp:=by
 have V:M _:=fe W g aO m cap ts Y.tk Y.m5 [43] [45];have S:M _:=fe W g aO m cap ts Y.tk Y.m5 [42] [47];rw[lP aB]at V S;have c0:=Y.tk.c0 0 xaa;have c1:=Y.tk.c1 0 xaa;have c2:=Y.tk.c2 0 xaa;have bQ:=Y.m5;have G:=Y.mc;have bC:=Q Y.ws;have br:=Q Y.gd;generalize ts.getD 0 h8=t at*;clear Y aB;obtain⟨ba,ps,bv⟩:=t;simp only at aC bb;subst aC;simp only[Nat.zero_mul,Nat.add_zero]at c0 c1 c2;simp only;have ab:=pw bb;have bc:=Q bb;clear bb;have aj:M (∀A,Kept 0 0 W A->Calls prog 36 #[ge P,(⟨1,1,0,0,0,me bv⟩:Vl).agg,h0 ps] A λe bx=>(∃x:Int,e=.returned (h0 x))/\M (TrO W P B u1 ap u3 u4 am (eg st ⟨1,1,0,0,0,me bv⟩ ps) e bx)):=λA ae=>yai (lF (bC.o.keep ae) br.o ⟨1,1,0,0,0,me bv⟩ ⟨Int.le_refl _,by show(1:Int)<=1000;decide⟩ (AF bv) ps) (λe bx t=>⟨t.ret,TrO.back ae t⟩);obtain⟨r,ah⟩:∃r,r=eg st ⟨1,1,0,0,0,me bv⟩ ps:=⟨_,rfl⟩
 rw[<-ah]at aj⊢;clear ah bC br;go_enter func33,ntmps33;go_upto_region 3 with (go_at_call 59;refine yai V.o ?_;rintro e Z ⟨rfl,X⟩;obtain rfl:=X.symm);go_upto_region 15 with (go_at_call 59;refine yai S.o ?_;rintro e Z ⟨rfl,X⟩;obtain rfl:=X.symm);go_upto_region 16 with fail;exact qaf):Zp:=h
theorem qag(h:Zp:=by
 subst K;have aG:g<w.heap.size:=(dO C.x rfl).2;have aw:=C.x;obtain⟨m,aR⟩:∃m,m=G.length:=⟨_,rfl⟩
 obtain⟨fr,af⟩:∃fr,fr=G.length-n:=⟨_,rfl⟩
 have aa:∀k,k<n->w.cell? ⟨g,fr+k,none⟩=some (h0 ((G.drop fr).getD k 0:Nat)):=λk H=>by
  exact xda
 have aE:M (∀o c,(o=fr\/n=0)->_):=λo c av=>sR w g o (m-fr) c (G.drop fr) xaa (by rw[List.length_drop];omega) aG (λk H=>by
  obtain rfl|av:=av
  ·exact aa k xaa
  ·omega)
 have hcut:w.ownsRow E.N 3 1 (hZ g fr cap) (G.take fr).length (ie (G.take fr)):=by
  exact xdk
 have b5:M (∀aq,Kept 0 0 w aq->_):=λaq k=>Tq.cut (xs':=G.take fr) (xv':=hZ g fr cap) ax C k hcut (λb q=>q);have aV:=C.lt;have T:M (∀aq,Kept 0 0 w aq->aq.cell? ⟨E.T,5,none⟩=some (hZ g m cap)/\aq.frozen? ⟨E.T,5,none⟩=false):=λaq k=>⟨dZ k C.lt (it aR C.t5),by rw[k.frozen (p:=⟨E.T,5,none⟩) C.lt xaa];exact C.fz 5⟩
 have s:=Q C.rN;have F:M (ρ E.T≠0):=by show _≠_;rw[C.rT];decide
 rw[<-aR]at aZ V ab U;rw[<-af];have ag:(m:Int)-n=(fr:Int):=xaa;have O:M (m=G.length/\fr=G.length-n):=⟨aR,af⟩
 have bU:fr<=m:=xaa;clear ax C aw aa hcut bi aF ah aR af;exact qah):Zp:=h
theorem qai(h:Zp:=by
 have bl:M _:=oO S.o br bA
 have bM:M (r=.error (3,bm)):=by
  have h:=aF.o;rw[sZ bA]at h;exact(h4 h).symm
 have T:M _:=jC S.o.c5 S.o.c6 S.o.fr 3 bm (Mst P u1 ap u3 u4) (.inl rfl);clear bA aF G S
 go_wp2_with (first
  |(go_at_call 34;refine yai bl.o ?_;rintro e Z ⟨ad,rfl,X⟩;obtain rfl:=X.symm;have fa:(0:Int)<=ad:=by omega)
  |(go_at_call 32;refine yai T.o ?_;rintro e ao ⟨rfl,u⟩))
 refine yax (v:=.tuple #[]) (by simp[results,results15,go_sem]) rfl ?_;rw[bM.o];exact⟨rfl,u.c5,u.c6,(Mv.of ay.o).bad u.chg⟩):Zp:=h
theorem qaj(h:Zp:=by
 obtain⟨⟨bh,aH,aN,aM,aS,aC⟩,J,aD,P,g,ax,V,O,bl⟩:=Y.op L U m1 K m3 ag;clear Y;unfold PtC;go_enter func113,ntmps113;go_wp2_with fail;rw[ax.o];clear bh aH aN aM aS aC ax;exact qak):Zp:=h
theorem qal(h:Zp:=by
 go_enter func33,ntmps33;go_upto_region 3 with (go_at_call 59;refine yai V.o ?_;rintro e Z ⟨rfl,X⟩;obtain rfl:=X.symm);go_upto_region 15 with (go_at_call 59;refine yai S.o ?_;rintro e Z ⟨rfl,X⟩;obtain rfl:=X.symm);go_upto_region 16 with fail;exact qam):Zp:=h
theorem qan(h:Zp:=by
 intros;rename_i wc au;obtain⟨p,aY,cap',b,G,O⟩:=au;obtain⟨_,_,bq,ak,az,_,_,_,_⟩:=O.o.g;go_wp2_with fail;refine(MS.lst O.o xaa (show(p.length:Int)-1=(vs.length:Nat) by have:=b.o.2;omega)).mono ?_;clear O bq ak az;rintro e h ⟨rfl,O⟩;exact qao):Zp:=h
theorem qap(h:Zp:=by
 obtain⟨bS,hi,ch,b6,ci⟩:=info_parts wQ;have V:=g.n;have bJ:M _:=sI g.k o;have ai:M _:=xR g.len aD;have af:=dE 0 0 W (ir v.op v.len v.a v.b v.c v.k);have S:M _:=h.keep af;have c:M (Mv _ W (Mst P u1 ap u3 u4) _):=Mv.of af;have c1:=S.o.c1;have aW:=Q S.o.r2;have bC:=S.o.fr 1;have n:=iB W v;obtain⟨bh,aH,aN,aM,aS,aC⟩:=n;have bY:(W.alloc (ir v.op v.len v.a v.b v.c v.k)).heap.size=W.heap.size+1:=by simp
 have aF:M (ap.ownBlock≠some P/\ap.ownBlock≠some W.heap.size):=⟨h.np.2.1,λe=>ih ((dO h.r2 e).2)⟩
 have ee:=h.lt;have ct:B<=W.heap.size:=ih h.sz
 have bu:M (eg st v p=if jf _=true then .error _ else .ok _):=rfl;generalize eg _ v p=r at bu⊢;obtain⟨a2,b2,fc⟩:=jo h.r2;clear h af g;subst fc;generalize bb:st.vs.length=N at*;have bc:=Q bb;clear bb;go_enter func36,ntmps36;go_wp2_with fail;generalize bN:W.alloc _=aa at c1 aW bh aH aN aM aS aC bY bC S c⊢;have ah:B<=aa.heap.size:=xaa;have a9:P<aa.heap.size:=xaa;have f:W.heap.size<aa.heap.size:=xaa;clear bY bN;exact qaq):Zp:=h
theorem qar(h:Zp:=by
 go_upto_region 2 with (go_at_call 79;refine bl.o.taken rfl ib ?_ (by rw[c.o];decide);rintro bh (m:M _) c0);clear bl c0;go_upto_region 3 with (go_at_call 97;refine Otp.call (jW m.o.ps (.inl ⟨rfl,rfl⟩)) m.o ib (λ_ _ h=>h1 rfl h) ?_;rintro y an r1 aH (C:M _) c1 ⟨bB,rfl,(cG:M _),rfl⟩;unfold tkV);have a:M _:=TBx.new C.o.ps bB;replace C:M _:=C.o.keep (dE 0 0 _ (tkO bB));clear m c1;generalize aH.alloc _=aa at*;generalize aH.heap.size=L at*;exact qas):Zp:=h
theorem qat(h:Zp:=by
 obtain⟨⟨bh,aH,aN,aM,aS,aC⟩,J,aD,P,g,ax,V,O,bl⟩:=Y.op L U m1 K m3 ag;clear Y;exact qau):Zp:=h
theorem qav(h:Zp:=by
 have I:=gI (i:=0) aY (by rw[y.cells.1];decide);have U:=g.lenB I;have bW:M (∀W,Kept 0 0 w W->_):=λW k=>(h.keep k).t0;have bl:M (∀W,Kept 0 0 w W->_):=λW k=>(y.keep k).cells.2 0 xab;exact qaw):Zp:=h
theorem qax(h:Zp:=by
 have an:M _:=dE 0 0 w;go_upto_region 3 with (go_at_call 48;refine yai (bu.o _ (an.o _)) ?_;rintro e Z ⟨rfl,ad⟩;unfold tkV hdP);have bJ:M _:=(an.o _).trans ad;have aw:M (∀ao,Ch E _ ao->_):=λao c=>JO bk.o ad c;have bb:=bk.o.nw.2;clear ad;generalize av:w.heap.size=bh at*;go_wp2_with (go_at_call 79;refine yai (bW.o _ bJ.o) ?_;rintro e ao ⟨rfl,C,ak⟩;obtain⟨bK,L,bi,bZ,aS,bO,am⟩:=aw.o _ ak;unfold tkV);obtain⟨a7,b2,cc,aW,bA,o,a⟩:=JP av.symm bb C ((bJ.o.chg).andThen ak) (h0 (cvT k).kind) (dJ (cvT k).text) (h0 ((cvT k).at_:Int)) (i0 bK) (i0 L) (i0 bi) am;rw[b2];exact qay):Zp:=h
theorem qaz(h:Zp:=by
 obtain⟨w,F⟩:=br.o ak a rfl;have eN:¬((a:Int)<0):=xaa;go_upto_region 7 with (go_at_call 33;refine yai bP.o ?_;rintro e ao ⟨rfl,aH,aN,aM,aS,aX,aT⟩);have ce:M _:=aw.o.keepC aT.chg bk.o;obtain⟨bW,T,a6,cr,cb⟩:=aX.lenc F;have cc:=ce.o.c0;have bw:=aX.c1;rw[a6]at bw;have bv:M _:=FtI.lit aX aT a;have cl:M (eP (λs e=>dQ f s loc e) st (es.take 1)=some (.ok (ak,[a]))):=bl.o ak a rfl;have dd:=Q w;have aO:M (∀i∈[a],i<ak.vs.length):=by intro i hi;simp at hi;subst hi;exact F
 have bb:=w.g.n;clear br bP bS bl aT aX a6 cr w bK bq;generalize dS ak a=l at cb;exact qba):Zp:=h
theorem qbb(h:Zp:=by
 have bC:M _:=λaq=>zC h ai aB aq;rw[vV ai]at bC⊢;obtain⟨ts,ap,J⟩:=k;simp only at h aB bC⊢;unfold tkV at bC⊢;simp only at bC⊢;have aL:=dE 0 0 W (.cells #[h0 (eV J),dJ J,h0 ap] 84);obtain⟨L,_,U⟩:=eo W #[h0 (eV J),dJ J,h0 ap] 84 (ib).chg (S:=λ_=>False) (λc=>c);have aw:M (∀aq,Kept 0 0 _ _->Kept 0 0 W aq/\aq.cell? _=some (h0 _)/\aq.cell? _=some (dJ _)/\aq.cell? _=some (h0 _)):=λaq af=>⟨aL.trans af,dZ af U (L 0),dZ af U (L 1),dZ af U (L 2)⟩
 clear aL L U h aB ai;generalize eV _=i1 at*;exact qbc):Zp:=h
theorem qbd(h:Zp:=by
 have a:∀B,B<W.heap.size->R≠some B->R'≠some B:=λB ax au=>by
  obtain e|⟨r,e,ah⟩:=a8.row<;>grind
 have m:∀{b:Option _}{n e:Nat}{G:List _},W.ownsRow base 3 1 _ n G->Apart (.slice b n e) _->(∀g,(Value.slice b n e).ownBlock=some g->R≠some g)/\(Value.slice b n e).ownBlock≠some w.heap.size/\Apart (.slice b n e) _:=λav F=>by
  exact xeg
 obtain⟨ay,i1,t⟩:=m h.i h.a1;obtain⟨ca,b6,aO⟩:=m h.o h.a3;have f:R≠some (w.heap.size+1):=λc=>by have:=(dO h.g.own (h.g.row.trans c)).1;have:=h.hb;omega
 exact qbe):Zp:=h
theorem qbf(h:Zp:=by
 intro t g aG;have _h1:=bH;have _h2:=a;have _h3:=m;have _h4:=l;have _h5:=f;have _h6:=aF;have _h7:=n1;refine PtO.mk al.o _ t 2 (by rw[av];decide) (λk H=>?_) g aG;have aj:cnt v.op=2:=i0 av
 exact qbg):Zp:=h
theorem qbh(h:Zp:=by
 generalize pfM st ax ys p=r at aF⊢;generalize im st ys p=au at bk bA aF;have bl:=Q y;clear h g y aY l;go_enter func169,ntmps169;go_upto_region 2 with (go_at_call 180;refine yai bk.o ?_;rintro e aa (⟨bq,js,aH,bX,K,rfl,L,u,ay⟩|⟨c,q,K,rfl,aj⟩);rotate_left;exact h1 rfl (.inr ⟨c,q,by rw[aF.o,K],rfl,aj⟩);have F:M _:=h1 K (h1 L (h1 u ay));clear K L u ay);obtain⟨K,L,u,ay⟩:=F.o;obtain⟨bz,co,af⟩:=bA.o _ _ K;exact qbi):Zp:=h
theorem qbj(h:Zp:=by
 rintro e aa ⟨rfl,bm,H,(aK:M _),(V:M _)⟩;clear bh aH aN aM aS aC;obtain⟨bh,aH,aN,aM,aS,aC⟩:=cd.o V.o;go_wp2_with fail;refine yai (u.o aK.o V.o xac (by simp[dK];try (have:=bc.o;omega)) (by simp[dK];try (have:=bc.o;omega)) _ _) ?_;exact qbk):Zp:=h
theorem qbl(h:Zp:=by
 obtain⟨⟨aH,aN,aM,aS,z,J,al⟩,bw⟩:=h;have l:∀b,(hZ g9 n9 cap9).ownBlock=some b↔g9=b:=λb=>by simp[Value.ownBlock]
 have aT:∀b,Mst P aH aN aM aS b->b<A.heap.size:=λb I=>by
  exact xfq
 have f:¬Mst P aH aN aM aS g9:=λc=>by
  obtain e|e:=bL
  ·exact al g9 e c
  ·have:=aT g9 c;omega
 have bc:Mv (Mst P u1 ap u3 u4) W (λb=>Mst P aH aN aM aS b\/(hZ g9 n9 cap9).ownBlock=some b) bn:=by
  exact xdr
 exact qbm):Zp:=h
theorem qbn(h:Zp:=by
 rintro⟨g,cap,bp,K,L,bi,U⟩;refine⟨g,_,_,K,L,?_,U⟩;have aG:g<W.heap.size:=by grind
 exact qbo):Zp:=h
theorem qbp(h:Zp:=by
 go_wp2_with (go_at_call 261;refine yai (bc.o _ ay.o) ?_;rintro e Z ⟨ad,(⟨c,_⟩|⟨_,rfl⟩)⟩;cases c;exact h1 rfl (.inr ⟨3,ap,rfl,rfl,(ay.o.trans ad).chg⟩))):Zp:=h
theorem qbq(h:Zp:=by
 have aj:M (∀A v,Kept 0 0 W A->(1<=v.len/\v.len<=1000)->v.k<18446744073709551616->Calls _ _ _ _ λe bx=>(∃x:Int,e=.returned _)/\M (TrO W P B _ _ _ _ _ (eg _ v _) e _)):=λA v ae z J=>yai (lF (h.keep ae) U v z J a0) (λe bx t=>⟨t.ret,t.back ae⟩);have bX:M (∀A p,Kept 0 0 W A->_):=λA p ae=>jC (h.keep ae).c5 (h.keep ae).c6 (h.keep ae).fr 4 p (Mst P u1 ap u3 u4) (.inl rfl);exact qbr):Zp:=h
theorem qbs(h:Zp:=by
 have eN:¬((a:Int)<0):=xaa;go_upto_region 7 with (go_at_call 33;refine yai bP.o ?_;rintro e ao ⟨rfl,aH,aN,aM,aS,aX,aT⟩);exact qbt):Zp:=h
theorem qbu(h:Zp:=by
 have aE:∀bx,Kept 0 0 A bx->_:=λbx ad=>
  D bx P B u1 ap u3 u4 am st bG aP cL loc g o ts.length c0 ts ⟨Y.ws.keep (ae.trans ad),Y.gd,Y.nm,Y.lc.keep (ae.trans ad),Y.ln,Y.lo,c2.keep ad,Y.tg,ih Y.m5,c3,λt az=>Y.ti t (by simp[az]),λt az=>Y.tn t (by simp[az])⟩ 2 a F yac r1 K
 have bL:=fE f st loc a Y.gd Y.nm Y.lo bD r1 K;have b:=Y.ws.far2 a5;exact qbv):Zp:=h
theorem qbw(h:Zp:=by
 have aL:=dE 0 0 w (.cells #[ge P] 95);have y:=dE 0 0 (w.alloc (.cells #[ge P] 95)) (ir v.op v.len v.a v.b v.c v.k);have a9:(w.alloc (.cells #[ge P] 95)).heap.size=w.heap.size+1:=by simp
 have aD:=iB (w.alloc (.cells #[ge P] 95)) v;rw[a9]at aD;have bj:((w.alloc (.cells #[ge P] 95)).alloc (ir v.op v.len v.a v.b v.c v.k)).heap.size=w.heap.size+2:=by simp
 exact qbx):Zp:=h
theorem qby(h:Zp:=by
 obtain⟨bw,p2,ah,ar⟩:=h.np;obtain⟨p,q,z,r,D,J⟩:=h.ap;have l:∀b,(hZ g9 n9 cap9).ownBlock=some b↔g9=b:=λb=>by simp[Value.ownBlock]
 exact qbz):Zp:=h
theorem qca(h:Zp:=by
 have bf:M _:=rS P c R (BS.keep h (dH w)) j aK B.l;rw[b]at bf;have g:=Q l;have o:M (∀D R',Stp P R w R' D->_):=λD R' s=>T.stepC s k cP ag;have aP:=l.at_;obtain⟨bh,aH,aN,aM,aS,aC⟩:=T;simp only[Nat.zero_add]at aH aN aM aS aC;have a6:M _:=dH w;rw[q]at aN;clear h B l k cP ag bH n1 b;exact qcb):Zp:=h
theorem qcc(h:Zp:=by
 have aE:M (E.N<=w.heap.size/\E.V<w.heap.size/\E.F<w.heap.size/\∀y∈aO,∀q,y.p=.map (some q)->q<w.heap.size):=by
  exact xej
 have aj:M ((∀b,b<E.N->ρ b=0)/\∀b,w.heap.size<=b->ρ b=0):=by
  obtain⟨_,_,_,_,_,_,C⟩:=h;exact⟨C.r0,C.rN⟩
 obtain⟨g,aG,a9⟩:=f.bk;exact qcd):Zp:=h
theorem qce(h:Zp:=by
 go_enter func29,ntmps29;go_upto_region 3 with fail;have bc:M _:=zv w i;change Code.wp _ _ _ _ ((w.alloc (.cells #[dJ _,.int _ (0:Nat),dJ _] 39)).alloc (.cells #[dJ _,h0 _,dJ _] 39));generalize (w.alloc _).alloc _=W0 at bc⊢;have c0:=(bk.o _ bc.o.k).at_ i hi;exact qcf):Zp:=h
theorem qcg(h:Zp:=by
 obtain⟨az,f⟩:=x;obtain⟨z,J,n,al⟩:=jO g _ _ (by simp_all) bi;have bZ:=al _ (j6 (k:=0) (by rw[J];simp));have aS:=al _ (j6 (k:=1) (by rw[J];simp));exact qch):Zp:=h
theorem qci(h:Zp:=by
 go_wp2_with (go_at_call 52;refine yai j4 ?_;rintro e ao ⟨rfl,X⟩;obtain rfl:=X.symm);exact qcj):Zp:=h
theorem qck(h:Zp:=by
 have bH:=Q av;clear av;go_upto_region 4 with (go_at_call 12;refine yai bW.o ?_;rintro e Z ⟨v,rfl,bL,ad⟩);obtain⟨be,x,rfl,aw⟩:=TR.slice bL;exact qcl):Zp:=h
theorem qcm(h:Zp:=by
 obtain⟨w,F⟩:=br.o s a rfl;have eN:¬((a:Int)<0):=xaa;go_upto_region 7 with (go_at_call 33;refine yai bP.o ?_;rintro e Z ⟨rfl,aH,aN,aM,aS,v,bl⟩);have aX:M _:=aw.o.keepC bl.chg bk.o;obtain⟨bW,T,a6,cr,cb⟩:=v.lenc F;have b7:=v.c1;subst a6;exact qcn):Zp:=h
theorem qco(h:Zp:=by
 clear aR;go_upto_region 8 with (first|(go_at_call 48;refine yai a.o ?_;rintro e Z ⟨rfl,ad⟩)|(go_at_call 79;refine aF.o.taken H.o ad ?_;intro ao i c3));have cA:M (Ch E _ _):=(ad.chg).andThen c3;have t:=Q i;clear i c3 ad a aF;exact qcp):Zp:=h
theorem qcq(h:Zp:=by
 have s:=Q bP;have b0:=Q bv;have br:=Q bL;have ct:=Q bC;obtain⟨r,ah⟩:∃r,r=Fh (ts.getD k h8) r1 bp:=⟨_,rfl⟩
 rw[<-ah];have aF:=Q ah;clear ah Y bP bv bL bC;go_enter func33,ntmps33;have L:¬((k:Int)<0):=xaa;exact qcr):Zp:=h
theorem qcs(h:Zp:=by
 obtain⟨bw,r1⟩:=key ca;obtain⟨p2,bp⟩:=key b6;obtain⟨ah,bo⟩:=key aO;have aB:Kept 0 0 w ((w.alloc g).alloc io):=(dE 0 0 w _).trans (dE 0 0 _ _);have bY:w.heap.size<(eY aa _ _ _ _).heap.size:=yaj ae.sz a0.size;exact qct):Zp:=h
theorem qcu(h:Zp:=by
 intro t g aG;have _h1:=bH;have _h2:=a;have _h3:=m;have _h4:=l;have _h5:=f;have _h6:=aF;have _h7:=n1;refine PtO.mk al.o _ t 1 (by rw[av];decide) (λk H=>?_) g aG;have aj:cnt v.op=1:=i0 av
 obtain rfl:k=0:=xaa;exact qcv):Zp:=h
theorem qcw(h:Zp:=by
 have n:(4:Int)=2\/(4:Int)=3\/(4:Int)=4\/(4:Int)=5\/(4:Int)=7:=xab;have t:(5:Int)=2\/(5:Int)=3\/(5:Int)=4\/(5:Int)=5\/(5:Int)=7:=xab;have aO:(3:Int)=2\/(3:Int)=3\/(3:Int)=4\/(3:Int)=5\/(3:Int)=7:=xab;exact qcx):Zp:=h
theorem qcy(h:Zp:=by
 have f:Chg (λb=>b<W.heap.size/\S b) W _:=⟨c.os,c.tape,c.output,c.size,λk H V=>c.block k H (λq=>V ⟨H,q⟩)⟩
 exact qcz):Zp:=h
theorem qda(h:Zp:=by
 have aR:=Y.tk.len;simp only[yap,yak,List.length_nil]at aR;have aB:=i7 F;have ah:=i7 I;have cd:us≠[]:=λc=>by rw[c]at ah;simp at ah
 have j:=jJ F yac;have C:=jJ I yac;have bK:=Y.mc;exact qdb):Zp:=h
theorem qdc(h:Zp:=by
 have p:M (i9 _ s x t=if (jst _ x t _).2.getD s 0=-1 then ((jst _ x t _).1++[dL 1 _ 0 0 0],(((jst _ x t _).1.length:Nat):Int))else ((jst _ x t _).1,(jst vs x t _).2.getD s 0)):=rfl;exact qdd):Zp:=h
theorem qde(h:Zp:=by
 go_enter func162,ntmps162;go_upto_region 18 with (go_at_call 269;refine yai lE ?_;rintro e aa ⟨rfl,(bV:M _)⟩;obtain⟨ag,aP,aQ,aU,bN⟩:=aw.o _ bV.o;clear ag aQ aU);exact qdf):Zp:=h
theorem qdg(h:Zp:=by
 have bI:IntKind.i64.wrap (v*10+(x-48))=v*10+(x-48):=by rw[IntKind.wrap_i64];omega
 have bR:IntKind.i64.wrap (x-48)=x-48:=by rw[IntKind.wrap_i64];omega
 have bH:(k:Int)<l.length:=xaa;exact qdh):Zp:=h
theorem qdi(h:Zp:=by
 have cl:=iP Z;rw[ao]at cl;rw[iN];have:=aa.l x ar;rw[show(az.vs.getD x _).len=dS _ x from rfl,this];exact cl):Zp:=h
theorem qdj(h:Zp:=by
 rw[b6,Nat.mul_one,Int.toNat_natCast]at this;exact this):Zp:=h
theorem qdk(h:Zp:=by
 rw[heap_setCell_same w g k _ _ _ h];simp[List.map_set]):Zp:=h
theorem qdl(h:Zp:=by
 have aB:=t.p;have c:∀X o,B≠X->(W.setCell ⟨B,j,_⟩ u).cell? ⟨X,o,_⟩=W.cell? _:=λX o ax=>dR (.inl ax);obtain⟨ar,bJ,ba,bu,bG,bB,bQ⟩:=h.b;exact qdm):Zp:=h
theorem qdn(h:Zp:=by
 generalize (List.replicate n _).getD x _=aw at c;have cG:(0:Int)<=x:=xaa;have cv:(x:Int)<n:=xaa;have ao:IntKind.i64.wrap (x+1)=x+1:=by rw[IntKind.wrap_i64];omega
 exact qdo):Zp:=h
theorem qdp(h:Zp:=by
 clear O;unfold PfK;intros;rename_i wc au;obtain⟨p,aY,cap',b,G,O⟩:=au;obtain⟨_,_,bq,ak,az,_,_,_,_⟩:=O.o.g;go_wp2_with fail;refine(MS.lst O.o xaa (show(p.length:Int)-1=(vs.length:Nat) by have:=b.o.2;omega)).mono ?_;clear O bq ak az;rintro e h ⟨rfl,O⟩;go_wp2_with fail;exact qdq):Zp:=h
theorem qdr(h:Zp:=by
 intros;rename_i wc au;obtain⟨vs2,aY,cap',f,k,O⟩:=au;obtain⟨_,_,bq,ak,az,_,_,_,_⟩:=O.o.g;go_wp2_with fail;refine(MS.lst O.o xaa (show(vs2.length:Int)-1=((vs.length:Nat)+1) by have:=b.o.2;have:=f.o.2;omega)).mono ?_;clear O bq ak az;rintro e h ⟨rfl,O⟩;exact qds):Zp:=h
theorem qdt(h:Zp:=by
 have bD:∀j,j<aI->_:=λj aK=>iA (List.all_eq_true.1 ap j (List.mem_range.2 aK));have cn:∀j,j<aI->∀k,k<cnt _->_:=λj aK=>kC (List.all_eq_true.1 ap j (List.mem_range.2 aK));have be:∀j,j<aI->_:=λj aK=>y7 (List.all_eq_true.1 ap j (List.mem_range.2 aK));have aB:Kept 0 0 w ((w.alloc (eZ G n1 c1 (some ⟨aJ,0,none⟩) aI c2 Y aE c3)).alloc io):=(dE 0 0 w _).trans (dE 0 0 _ _);have aw:M _:=(gQ w (.slice G n1 c1) (hZ aJ aI c2) (.slice Y aE c3)).keep (dE 0 0 _ io);exact qac):Zp:=h
theorem qdu(h:Zp:=by
 change Code.wp _ _ _ _ (W.alloc (.cells #[dJ [110,97,109,101],h0 ps,dJ bv] 39));have aw:M _:=gK W [110,97,109,101] ps bv;have ay:M _:=dE 0 0 W (.cells #[dJ [110,97,109,101],h0 ps,dJ bv] 39);generalize W.alloc (.cells #[dJ [110,97,109,101],h0 ps,dJ bv] 39)=aq at aw ay⊢;have cz:=Q ay.o.size;generalize av:W.heap.size=bh at aw⊢;have be:=Q av;clear av;obtain⟨bK,L,bi⟩:aq.cell? ⟨bh,0,none⟩=some (dJ [110,97,109,101])/\aq.cell? ⟨bh,1,none⟩=some (h0 ps)/\aq.cell? ⟨bh,2,none⟩=some (dJ bv):=⟨aw.o.c0,aw.o.c1,aw.o.c2⟩
 exact qdv):Zp:=h
theorem qdw(h:Zp:=by
 go_upto_region 45 with (go_at_call 60;refine yai K.o ?_;rintro e a7 ⟨er,d0,rfl,aQ,aU,bN,cp,av,bi,dg⟩);obtain⟨bW,T,a6,cr,cb⟩:=av.lenc aC;obtain⟨gf,of,ag,cz,aJ,bD⟩:=dg.at_ xac;subst a6 ag;have cF:M _:=aD.o.trans bi;have V:M _:=aw.o.keepC cF.o.chg bk.o;exact qdx):Zp:=h
theorem qdy(h:Zp:=by
 generalize W.heap.size=bh at aw bk⊢;obtain⟨b2,ai,ef,e4⟩:=lS _ es st R b6.o 0 (by rw[H.o];decide) st [] rfl;obtain⟨o,bH,c0,bq,bd⟩:=m.o.call 0 (by rw[H.o];decide);obtain⟨e3,e2⟩:=bd st b2 aq u1 ap u3 u4 (Gw.refl cd.o) ai (bC.o.keep ay.o) (Mv.of ay.o);rw[<-m.o.cell (Mv.of ay.o).chg 0]at bq;have bS:=Q ef;have bl:=Q e4;have br:=Q e3;have bP:=Q e2;have bK:=aw.o.c0;clear ai ef e4 e3 e2 bd;exact qdz):Zp:=h
theorem qea(h:Zp:=by
 have aw:M _:=gK W cc bm o;have ay:M _:=dE 0 0 W (.cells #[dJ cc,h0 bm,dJ o] 39);generalize W.alloc _=aq at aw ay⊢;generalize W.heap.size=bh at aw a6⊢;have S:M _:=G.o.ws.keep ay.o;have L:=aw.o.c1;have bi:=aw.o.c2;exact qeb):Zp:=h
theorem qec(h:Zp:=by
 clear b1 bw p2;obtain⟨_,b1,bw,p2⟩:=aw.o.keep (bV.o.trans ad);have bZ:=((bV.o.trans ad).frozen aw.o.sz xaa).trans (dv.o 0);have aS:=((bV.o.trans ad).frozen aw.o.sz xaa).trans (dv.o 1);have bO:=((bV.o.trans ad).frozen aw.o.sz xaa).trans (dv.o 2);have aj:=BR.cell ew.o s (by rw[mR,O.o];exact ai);rw[F]at aj;unfold eY at aj bf ew;clear ca b6 aO bg a8 bE ad gl aw dv aF b0 bV eN;exact qed):Zp:=h
theorem qee(h:Zp:=by
 have J:=af _ (j6 (js:=js) (k:=0) xaa);rw[co] at*;obtain⟨bJ,aN⟩:=u.t0;have U:=bz.g.lenB J;have bf:M (∀A,Kept 0 0 aa A->Calls prog 168 #[ge E.P,h0 (js.getD 0 0:Nat)] A λe D=>e=.returned (h0 (dS bq (js.getD 0 0)))/\Kept 0 0 aa D/\Kept 0 0 A D):=λA ae=>yai (vY (u.keep ae) J) (λe D ⟨a,b⟩=>⟨a,ae.trans b,b⟩);have ag:=(dO L.1 (k:=m) rfl).2;exact qef):Zp:=h
theorem qeg(h:Zp:=by
 have be:M (∀{aa:World}{a:List _}{bm:Option _}{Y:Value},BS _ P u1 u3 (vs++a) (c+dK a) base _ Y->Stp P R (w.alloc (ir v.op v.len v.a v.b v.c v.k)) bm aa->a.length<=10->-100000<=dK a->dK a<=100000->∀ax p q r,_):=λh s ar b9 cl ax p q r=>kI h s (ih b.l) (ih b.c0) (ih b.c1) ax _ p q r b.n0 b.n1;exact qeh):Zp:=h
theorem qei(h:Zp:=by
 have P:M (∀W,Kept 0 0 w W->Calls prog 163 #[ge E.T,tkV (cvT n),.map mp] W λe D=>e=.returned (h0 v)/\Kept 0 0 W D):=λW k=>yai (nQ (h.keep k) (aB.chg (k.chg (S:=λ_=>False)) (λ_ q=>q.elim) (λ_ _=>rfl)) ai) (λe D ⟨ad,ah⟩=>by
  rw[aD]at ah
  obtain⟨ae,K,a6⟩|⟨c,q,K,_⟩:=ah
  ·cases K;exact⟨a6,ad⟩
  ·cases K)
 exact qej):Zp:=h
theorem qek(h:Zp:=by
 obtain⟨⟨bh,aH,aN,aM,aS,aC⟩,J,aD,P,g,ax,V,O,bl⟩:=Y.op L U m1 K m3 ag;clear Y;unfold MvC;go_enter func114,ntmps114;go_wp2_with fail;rw[ax.o];clear bh aH aN aM aS aC ax;refine eG (wb O xaa ?_);clear O;unfold MfK;exact qan):Zp:=h
theorem qel(h:Zp:=by
 rw[af]at aZ⊢;obtain⟨bV,rfl,a5,ch,aC⟩:=aZ.at_ xac;obtain⟨o,c0,c1,c2,c3⟩:=aC 0 xac;obtain⟨ao,G,p,u,y⟩:=aC 1 xac;exact qem):Zp:=h
theorem qen(h:Zp:=by
 generalize aa.heap.size=bh at*;have c0:=bl.o _ al.o;obtain⟨bJ,_⟩:=bW.o _ al.o;have cz:M (∀W,Kept 0 0 aA W->W.cell? ⟨bh,2,none⟩=some (h0 j.kind)/\W.cell? ⟨bh,3,none⟩=some (dJ j.text)/\W.cell? ⟨bh,4,none⟩=some (h0 j.at_)):=λW k=>⟨dZ k o bj,dZ k o bI,dZ k o bR⟩
 exact qeo):Zp:=h
theorem qep(h:Zp:=by
 unfold MvC;go_enter func114,ntmps114;go_wp2_with fail;rw[ax.o];clear bh aH aN aM aS aC ax;exact qeq):Zp:=h
theorem qer(h:Zp:=by
 have m:∀{u:Value}{e s n:Nat}{G:List _},W.ownsRow B e s u n G->Apart u _->Apart u _:=λav F k H aD=>by
  exact xdx
 exact qes):Zp:=h
theorem qet(h:Zp:=by
 obtain⟨bh,aH,aN,aM,aS,aC⟩:=T;simp only[Nat.zero_add]at aH aN aM aS aC;exact qeu):Zp:=h
theorem qev(h:Zp:=by
 have d1:¬((v:Int)<0):=xaa;go_upto_region 6 with (go_at_call 62;refine yai b.o ?_;rintro e Z ⟨rfl,ad⟩);have bJ:M _:=ay.o.trans ad;have cz:M _:=aw.o.keep ad;have bq:=cO.o Z bJ.o;have bP:M _:=ai.o ⟨v,rfl⟩ Z bJ.o;clear b aw ay ad bK ak az bF cg cO ai;exact qew):Zp:=h
theorem qex(h:Zp:=by
 rw[lP aB]at V S;have c0:=Y.tk.c0 0 xaa;have c1:=Y.tk.c1 0 xaa;have c2:=Y.tk.c2 0 xaa;have bQ:=Y.m5;have G:=Y.mc;exact qey):Zp:=h
theorem qez(h:Zp:=by
 go_upto_region 1 with fail;change Code.wp _ _ _ _ (W.alloc (.cells _ 39));generalize W.alloc _=aq at aw ay⊢;generalize W.heap.size=bh at aw⊢;exact qfa):Zp:=h
theorem qfb(h:Zp:=by
 go_upto_region 4 with (go_at_call 82;refine Otp.call (eX C.o.ps xab) C.o ib (λ_ _ h=>h1 rfl h) ?_;rintro P U bp aN (q:M _) c2 ⟨bQ,rfl,(cv:M _),rfl⟩;unfold tkV);replace a:M _:=a.o.ch c2;clear C c2;obtain⟨K,O,T,Y,_⟩:=a.o;exact qfc):Zp:=h
theorem qfd(h:Zp:=by
 go_upto_region 5 with (go_at_call 82;refine Otp.call (eX q.o.ps xab) q.o ib (λ_ _ h=>h1 rfl h) ?_;rintro cM aw bo aM (i:M _) c3 ⟨X,rfl,(aq:M _),rfl⟩;unfold tkV);replace a:M _:=a.o.ch c3;exact qfe):Zp:=h
theorem qff(h:Zp:=by
 have a0:=fN aa w.heap.size (.slice L n1 aW) (.slice a2 aI bA) (.slice U aE bs);have ae:=bL.keep k;obtain⟨aP,aQ,aU⟩:=fQ _ _ ae.q0 ae.q1 ae.q2 (.slice L n1 aW) (.slice a2 aI bA) (.slice U aE bs);exact qfg):Zp:=h
theorem qfh(h:Zp:=by
 have n1:(w.alloc (.cells #[h0 i1,dJ J,h0 ap] 84)).cell? ⟨w.heap.size,1,none⟩=some (dJ J):=L 1;have aI:(w.alloc (.cells #[h0 i1,dJ J,h0 ap] 84)).cell? ⟨w.heap.size,2,none⟩=some (h0 ap):=L 2;exact qfi):Zp:=h
theorem qfj(h:Zp:=by
 obtain⟨bh,aH,aN,aM,aS,aC⟩:=a.o.at_;simp only[Nat.zero_add]at aH aN aM aS aC;have af:M (Bx ao w.heap.size ao.heap.size w.heap.size (ge P)):=by show Bx _ _ _ _ _;rw[h.o];exact ce.o
 exact qfk):Zp:=h
theorem qfl(h:Zp:=by
 go_upto_region 2 with (go_at_call 82;refine Otp.call O.o bl.o ib (λ_ _ h=>h1 rfl h) ?_;rintro y an aH aa (C:M _) c1 ⟨l,rfl,(ab:M _),rfl⟩);clear O bl c1;exact qfm):Zp:=h
theorem qfn(h:Zp:=by
 clear aF br ct cA ch aX aT F aq O ar aL a5;obtain⟨af,aD⟩:∃af,ts.getD k h8=af:=⟨_,rfl⟩
 have bX:=Q aD;rw[aD]at c1 aW K bM;clear aD;obtain⟨aa,w,ax⟩:=af;exact qfo):Zp:=h
theorem qfp(h:Zp:=by
 obtain⟨k,us,rfl,H⟩:=lR c cd.1;have bW:M (∀W,Kept 0 0 w W->_):=λW ae=>yn (f.keep ae) (by grind);have bC:M (∀r,dT E.t.length _ ([s]++r)=dT _ us r):=λr=>kZ aB H r;exact qfq):Zp:=h
theorem qfr(h:Zp:=by
 have aE:=dE 0 0 w (eZ none 0 0 none 0 0 none 0 0);have bW:M _:=oP (f.keep aE) xaa aY;have bf:M ((eK t).length<=4000):=by show _<=_;have:=l7 t;have:=f.len;omega
 exact qfs):Zp:=h
theorem qft(h:Zp:=by
 obtain⟨(al:M _),aK,m1,_,m3⟩:=aw.o _ F;have av:=(eo aa #[h0 p,.slice a1 n1 c1,h0 ax] 192 (ib).chg (S:=λ_=>False) (λc=>c))
 exact qfu):Zp:=h
theorem qfv(h:Zp:=by
 have cc:=aX.o.c0;have aW:=aX.o.c1;have bb:=w.g.n;generalize dS s a=l at cb aj;generalize s.vs.length=N at*;clear v bl bP aw aF br w bK bq;exact qfw):Zp:=h
theorem qfx(h:Zp:=by
 have O:=Q bp;clear bp bf;go_upto_region 7 with (go_at_call 13;refine yai an.o ?_;rintro e ao ⟨rfl,a5⟩);have ai:M _:=bJ.o.trans a5;exact qfy):Zp:=h
theorem qfz(h:Zp:=by
 have ep:M (∀A bx,Kept 0 0 a7 A->Chg (Mst P aQ (hZ bW bF.vs.length T) bN cp) A bx->bx.cell? ⟨bh,1,none⟩=some (h0 a0)/\bx.cell? ⟨gf,of,none⟩=some (h0 (n:Nat))/\bx.cell? ⟨gf,of+1,none⟩=some (h0 (u:Nat))):=λA bx ae cv=>by
  exact xdt
 have bb:=ab.g.n;have eS:=ab.g.lenB aC;have ey:=Q ab.g;have e1:=Q av;have e5:=Q cX;exact qga):Zp:=h
theorem qgb(h:Zp:=by
 refine eG (vq O xaa ?_);clear O;unfold PfK;intros;rename_i wc au;obtain⟨vs2,aY,cap',f,k,O⟩:=au;obtain⟨_,_,bq,ak,az,_,_,_,_⟩:=O.o.g;go_wp2_with fail;refine(MS.lst O.o xaa (show(vs2.length:Int)-1=((vs.length:Nat)+1) by have:=b.o.2;have:=f.o.2;omega)).mono ?_;clear O bq ak az;rintro e h ⟨rfl,O⟩;go_wp2_with fail;exact qgc):Zp:=h
theorem qgd(h:Zp:=by
 have bK:=Y.mc;have bQ:=Y.m5;have br:am.length<=100000:=by rw[Y.ws.nl];have:=Y.gd.m;omega
 have c0:=Y.tk.c0 0 xaa;have bH:=Y.tk.c0 1 xaa;have n1:=Y.tk.c1 1 xaa;have aI:=Y.tk.c2 1 xaa;exact qge):Zp:=h
theorem qgf(h:Zp:=by
 have aW:=c8.o.c1;clear af ax aR aF bU bp v aK b6 m cd;obtain⟨q,an⟩:∃q,q=im s G a0:=⟨_,rfl⟩
 have b5:=Q an;rw[<-an]at K bA;clear an;rw[aI.o]at K⊢;exact qgg):Zp:=h
theorem qgh(h:Zp:=by
 have bl:M _:=oL S.o br bA;have cA:=Q bA;clear bA;go_upto_region 23 with (go_at_call 34;refine yai bl.o ?_;rintro e Z ⟨rfl,X⟩;obtain rfl:=X.symm);clear bl;exact qgi):Zp:=h
theorem qgj(h:Zp:=by
 have aR:=Y.tk.len;simp only[yap,yak,List.length_nil]at aR;have aB:=i7 F;have j:=jJ F yac;have bK:=Y.mc;have bD:=ji F (λt az=>Y.ti t (by simp[az])) a xac;exact qgk):Zp:=h
theorem qgl(h:Zp:=by
 rintro e Z ⟨rfl,bP,ae,(aT:M _),(K:M _)⟩;clear bh aH aN aM aS aC;obtain⟨bh,aH,aN,aM,aS,aC⟩:=cd.o K.o;go_wp2_with fail;refine yai (u.o aT.o K.o xac (by simp[dK];try (have:=bc.o;omega)) (by simp[dK];try (have:=bc.o;omega)) _ _) ?_;rintro e bn I;exact qgm):Zp:=h
theorem qgn(h:Zp:=by
 obtain⟨ba,ps,bv⟩:=t;simp only at aC;subst aC;have af:((m:Int)==1)=false:=yav xaa;simp only[Nat.zero_mul,Nat.add_zero]at c0 c1 c2;exact qal):Zp:=h
theorem qgo(h:Zp:=by
 have fq:M (∀(X dd dg:Value) (o:Nat),(((wr.setCell _ X).setCell _ dd).setCell _ dg).drew.cell? _=wr.cell? ⟨_,o,_⟩):=λX dd dg o=>lq (x:=X) (y:=dd) (aX:=dg) hg;have e4:=Q bf.o.a4;have bm:M _:=bf.o.fin (dH _);exact qgp):Zp:=h
theorem qgq(h:Zp:=by
 rw[<-ah];have aF:=Q ah;clear ah h U b0 au cS;unfold iU;simp only;go_enter func65,ntmps65;go_upto_region 2 with fail;exact qgr):Zp:=h
theorem qgs(h:Zp:=by
 have V:M _:=fe W g aO m cap ts Y.tk Y.m5 [43] [45];have S:M _:=fe W g aO m cap ts Y.tk Y.m5 [42] [47];exact qex):Zp:=h
theorem qgt(h:Zp:=by
 have o:M (∀D R',Stp P R w R' D->_):=λD R' s=>T.stepC s k cP ag;have aP:=l.at_;have aQ:=b.at_;exact qet):Zp:=h
theorem qgu(h:Zp:=by
 obtain⟨u1,u3,Y,bm,am,ax,C⟩:=h;rw[jU az];obtain⟨ts,ap,J⟩:=t;simp only at az⊢;unfold tkV;simp only;have aL:=dE 0 0 w (.cells #[h0 (eV J),dJ J,h0 ap] 84);exact qgv):Zp:=h
theorem qgw(h:Zp:=by
 generalize aa.heap.size=bh at*;have c0:=bl.o _ al.o;obtain⟨bJ,_⟩:=bW.o _ al.o;exact qgx):Zp:=h
theorem qgy(h:Zp:=by
 have bK:=aw.o.c0;go_upto_region 3 with (go_at_call 35;refine yai (cb.o _) ?_;rintro e Z ⟨rfl,ad⟩);have bJ:M _:=ay.o.trans ad;have aX:M _:=aw.o.keep ad;exact qgz):Zp:=h
theorem qha(h:Zp:=by
 have eS:¬((y:Int)<0):=xaa;go_upto_region 11 with (go_at_call 33;refine yai cA.o ?_;rintro e ao ⟨rfl,a9,bj,bI,bR,aX,aT⟩);have F:=ch.o.trans aT;exact qhb):Zp:=h
theorem qhc(h:Zp:=by
 obtain⟨w,F⟩:=br.o ⟨v,rfl⟩ s a rfl;have ar:=yaj (cT.o v rfl) w.n;exact qbs):Zp:=h
theorem qhd(h:Zp:=by
 generalize dS bq bG=ar at*;have al:E.T≠aa.heap.size:=xaa;have X:m≠aa.heap.size:=xaa;have C:M (E.T<aa.heap.size/\m<aa.heap.size):=⟨aN,ag⟩
 exact qhe):Zp:=h
theorem qhf(h:Zp:=by
 have G:=Q Y;have a6:=Q Y.ws.far;obtain⟨cc,bm,o⟩:=n;simp only[Nat.zero_mul,Nat.add_zero,Nat.one_mul]at c0 bH n1 aI;simp only[fF]at h;have aF:=Q h;exact qhg):Zp:=h
theorem qhh(h:Zp:=by
 clear cb bD av bi dg ad K aD bo cz aJ cr cX aW c8 cF aI bA aw b5 bM;go_quiet (fail)
 have S:M _:=ed 0 0 (w:=a7) nq;have Z:M _:=aG.o _ S.o;exact qhi):Zp:=h
theorem qhj(h:Zp:=by
 have bU:M (R=.ok (s,G)):=by
  exact xem
 obtain⟨d2,e6,a9,bj,bI,bR,rfl,af,(aD:M _),ax⟩:=aR.o.xs;have K:M _:=ya af v.o.g d2 G.length e6 G ax (by rw[aI.o];decide) aK.o a0;have c8:M _:=aw.o.keepC aD.o.chg bk.o;exact qhk):Zp:=h
theorem qhl(h:Zp:=by
 have av:=bf.o.lt;have bu:=bf.o.c2;have aW:=Q au.r4;have cd:=Q au;have c7:am.length<=5000:=it au.nl cT.m
 clear au;subst b2;generalize bb:am.length=N at*;have bc:=Q bb;clear bb;exact qhm):Zp:=h
theorem qhn(h:Zp:=by
 obtain⟨a5,em⟩:=d3.o _ _ rfl;have fc:¬((a2:Int)<0):=xaa;have cO:M _:=ea.o _ _ rfl;have d4:M _:=v.o.trans a5
 have eb:M (∀i∈G++[a2],i<az.vs.length):=by
  exact xcs
 exact qho):Zp:=h
theorem qhp(h:Zp:=by
 have dp:=sf (by rw[V];decide) (by rw[V];decide) (by rw[V];decide);have af:=zj j aj dp
 have bd:ts++c::[n]=((k::l::(ts++[c,n,q])).drop 2).take (m-1-2):=by
  exact xeo
 exact qhq):Zp:=h
theorem qhr(h:Zp:=by
 have bc:M (-1000<=v.len/\v.len<=1000):=⟨b.n0,b.n1⟩
 have ay:=Q bx;have cd:M (∀{aa:World}{bm:Option _},Stp P R _ bm aa->_):=λs=>aD.step s xac bi;exact qhs):Zp:=h
theorem qht(h:Zp:=by
 have bk:=Q h.far;have bC:=Q h;have cd:=Q U;have m:=Q b0;have b6:=Q au;have H:=Q cS;exact qhu):Zp:=h
theorem qhv(h:Zp:=by
 go_enter func15,ntmps15;go_upto_region 20 with fail;go_upto_region 21 with fail;change Code.wp _ _ _ _ (W.alloc (.cells #[dJ _,.int _ bm,dJ _] 39));exact qea):Zp:=h
theorem qhw(h:Zp:=by
 have cX:¬Mst P aQ (hZ bW bF.vs.length T) bN cp bh:=λc=>(cF.o.new bh c).elim bk.o (λc=>ih aw.o.lt);have dp:M _:=(Mv.of (Maa:=Mst P u1 ap u3 u4) ay.o).trans cF.o;exact qhx):Zp:=h
theorem qhy(h:Zp:=by
 obtain⟨a4,bW,al⟩:=jD S.o.r4;subst al;go_upto_region 2 with (go_at_call 34;refine yai bl.o ?_;rintro e Z ⟨i,rfl,a0,X⟩;obtain rfl:=X.symm);exact qhz):Zp:=h
theorem qia(h:Zp:=by
 have bA:M _:=λbF j (bf:im s G a0=.ok (bF,j))=>jO v.o.g G a0 aK.o bf;exact qgf):Zp:=h
