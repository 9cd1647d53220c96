import Derived.BigQuiet
import Derived.BigRegion
import Derived.Deep.AppendLies
import Derived.Deep.AppendSrc
import Derived.Deep.DeepCutAuto
import Derived.Deep.DrawnRows
import Derived.Deep.Draws
import Derived.Deep.LoopGhost
import Derived.Deep.Quiet
import Derived.Deep.QuietTactic
import Derived.Deep.RegionHeld3
import Derived.Deep.RegionLaw
import Derived.Deep.RegionWith
import Derived.Deep.Slices
import Derived.DeepKeys4
import Derived.Laws.BytesArg
import Derived.Laws.CopyOwn
import Derived.Laws.Cover3
import Derived.Laws.FloatArith
import Derived.Laws.IdiomCopy
import Derived.Laws.NewBlocks
import Derived.Laws.OwnMore
import Derived.Lib.AppendZerosOnto
import Derived.Lib.ConvBytes
import Derived.Lib.Overlaps
import Derived.Lib.SliceRun
import Derived.Lib.Walk
import Derived.LoopIn
import Derived.LoopNIn
import Derived.Maps.OwnOps
import Derived.Maps.OwnSet
import Derived.OpenShut
import Derived.OwnWalkIn
import Derived.ProofKit
import Derived.RangeFuncBound
import Derived.RangeFuncCalls
import Derived.RangeFuncLeaves
import Derived.RangeFuncNested
import Derived.Shelf.Abstract
import Derived.Shelf.RegionOpen
import Derived.Shelf.Spec.SlicesInsert
import Derived.StillTail
import Derived.TacticsInMore
import Derived.WalkKit
import Derived.WalkLawsBesides
import Derived.WalkSpells
namespace Go.Proofs.Z
variable{Zp:Prop}
def E(p:Prop):Prop:=p
theorem E.o{p}(h:E p):p:=h
theorem hO{p q:Prop}(h:q)(g:q->p:=by intro x;rw[x];rfl):p:=g h
theorem hN{p q:Prop}(h:q)(g:q->p:=by intro x;rw[x];omega):p:=g h
theorem hM{p q r:Prop}(h:q)(k:r)(g:q->r->p:=by intro x y;rw[<-x];exact y):p:=g h k
theorem hL{p q r:Prop}(h:q)(k:r)(g:q->r->p:=by intro x y;rw[x];exact y):p:=g h k
theorem hK{p q r:Prop}(h:q)(k:r)(g:q->r->p:=by intro _ _;omega):p:=g h k
theorem hJ{p q:Prop}(h:q)(g:q->p:=by intro _;omega):p:=g h
theorem hE{α:Type _}{a b:α}(h:some a=some b):a=b:=Option.some.inj h
theorem hD{c:Prop}{d:Decidable c}(h:c){α:Sort _}{t e:α}:ite c t e=t:=if_pos h
theorem hC{c:Prop}{d:Decidable c}(h:¬c){α:Sort _}{t e:α}:ite c t e=e:=if_neg h
theorem hB{a b:Prop}(h:a)(g:b):a/\b:=⟨h,g⟩
open Go.RowKit
theorem yaa{A B}{n:Nat}:A∨B∨n≤n:=.inr (.inr (Nat.le_refl _))
theorem yab{A}{n:Nat}:A∨n≤n:=.inr (Nat.le_refl _)
theorem yac{A n}:(n≤n∧n<n+1)∨A:=.inl ⟨Nat.le_refl _,Nat.lt_succ_self _⟩
theorem yad{n:Nat}:n≤n:=Nat.le_refl _
theorem yae{n}:0≤n:=Nat.zero_le _
theorem yaf{n}:n<n+1:=Nat.lt_succ_self _
theorem yag(h:Zp:=by simp;omega):Zp:=h
theorem yah(h:Zp:=by show(0:Nat)<18446744073709551616;decide):Zp:=h
theorem yai.{u}{α:Type u}{l:List α}{i a}:l.getD i a=l[i]?.getD a:=List.getD_eq_getElem?_getD
theorem yaj{P f args w R R'}(h:Calls P f args w R)(g:∀e w',R e w'→R' e w'):Calls P f args w R':=h.mono g
theorem yak{n m k:Nat}(h:n<m)(g:m≤k):n<k:=Nat.lt_of_lt_of_le h g
theorem yal.{u}{α:Type u}{s t:List α}:(s++t).length=s.length+t.length:=List.length_append
theorem yam.{u}{α:Type u}{l:List α}{i}(h:i<l.length):l[i]?=some l[i]:=List.getElem?_eq_getElem h
theorem yan.{u}{α:Type u}[BEq α][LawfulBEq α]{a b:α}(h:a≠b):(a==b)=false:=beq_eq_false_iff_ne.2 h
theorem yao{n m k:Nat}(h:n≤m)(g:m≤k):n≤k:=Nat.le_trans h g
theorem yap.{u}{α:Type u}{i}{l:List α}(h:l.length≤i):l.take i=l:=List.take_of_length_le h
theorem yaq.{u}{α:Type u}{a}{s:List α}:(a::s).length=s.length+1:=rfl
theorem yar{a b:ByteArray}:(a++b).size=a.size+b.size:=ByteArray.size_append
theorem yas.{u}{α:Type u}{l r:List α}{i}(h:l.length≤i):(l++r)[i]?=r[i-l.length]?:=List.getElem?_append_right h
theorem yat.{u}{α:Type u}{l r:List α}{i}(h:i<l.length):(l++r)[i]?=l[i]?:=List.getElem?_append_left h
theorem yau.{u}{α:Type u}{i}{l:List α}(h):l.take (i+1)=l.take i++[l[i]]:=List.take_succ_eq_append_getElem h
theorem yav(w:World)(c t i):(w.alloc (.cells c t)).cell? ⟨w.heap.size,i,none⟩=c[i]?:=World.cell?_alloc_new w c t i
theorem yaw(w:World)(b e s):w.ownsRow b e s (.slice none 0 0) 0 []:=World.ownsRow_nil w b e s
theorem yax.{u}{α:Type u}[BEq α][LawfulBEq α]{a b:α}(h:a≠b):(a==b)=false:=beq_false_of_ne h
theorem yay{p}[Decidable p](h:¬p):decide p=false:=decide_eq_false h
theorem yaz{P fn R a w v}(h:Sem.run P (results fn a.tmps) w=.ok v w)(g:a.defers=[])(k:R (.returned v) w):bodyPost P fn R .ret a w:=bodyPost_ret h g k
open Go.RowKit
abbrev hy(b:Nat):Value:=.pointer (some ⟨b,0,none⟩)
abbrev hz(b n c:Nat):Value:=.slice (some ⟨b,0,none⟩) n c
abbrev hA(x:Int):Value:=.int .i64 x
theorem xaa(h:Zp:=by omega):Zp:=h
theorem xab(h:Zp:=by decide):Zp:=h
theorem xac(h:Zp:=by simp):Zp:=h
theorem xad(h:Zp:=by
 conv=>arg 2;whnf
 go_region_with (first
  |(go_at_call 44;refine yaj (HC.o _ ((eG W).trans aw)) ?_;rintro e ag ⟨aq,cap',rfl,⟨u0,br⟩,⟨u1,ay⟩,⟨u2,a0⟩,al,_,aI⟩;have bZ:=al 0;have b5:=al 1;have b6:=al 2;clear al)
  |(go_at_call 46;refine yaj (ij _ _ _ _ _ _) ?_;rintro e aA ⟨rfl,aw⟩;have bK:=(MS.keep HM.o ((eG W).trans aw)).g.c0;have bu:=(MS.keep HM.o ((eG W).trans aw)).g.c1;have p2:=(MS.keep HM.o ((eG W).trans aw)).g.c2))
 all_goals exact HK _ ⟨_,_,_,⟨rfl,by simp⟩,by simp,aI⟩):Zp:=h
theorem xae(h:Zp:=by
 clear HM;unfold PfK;intros;rename_i wc K;obtain⟨f,aq,cap',Z,B,HM⟩:=K;go_wp2_with fail;refine fk (kj HM xaa (show(f.length:Int)-1=(vs.length:Nat) by have:=Z.o.2;omega) ?_);unfold PfK;intros;rename_i aB K;obtain⟨ba,aP,y2,HR⟩:=K;go_wp2_with fail;exact yaz (by simp[results,results140,go_sem,ba,aP,y2]) rfl (MS.finPR HM.o HR.o (by rw[Z.o.1]<;>simp))):Zp:=h
theorem xaf(h:Zp:=by
 have aZ:=HM.o.g.c0;have ax:=HM.o.g.c1;have aU:=HM.o.g.c2;exact xad):Zp:=h
theorem xag(h:Zp:=by
 obtain⟨D,bl⟩:=Int.eq_ofNat_of_zero_le X.1;obtain⟨m,aq⟩:=Int.eq_ofNat_of_zero_le (show 0<=s.len by omega);have HD:E (s.dst+s.len=((D+m:Nat):Int)):=by show _=_;omega
 have aI:D+m<=n:=xaa;have aN:E (g≠P):=by show _≠_;have:=be.o;have:=aL.o;omega
 have HE:E (∀w,Calls prog 29 #[(Spn.mk (D:Int) (m:Int)).agg] w λe B=>e=.returned (hA ((D:Int)+m))/\Kept 0 0 w B):=λw=>lB w (Spn.mk (D:Int) (m:Int)) (by show -1000000<=(D:Int)+m/\(D:Int)+m<=1000000;omega);have aK:E (AtP _ P 0 (Spn.mk s.dst s.len)/\P<_):=⟨ar.o,an⟩
 have aO:E _:=(u.o.mono (lo':=g) (hi':=g+1) λb _ c=>by omega)
 have aM:E (BL _ g n (i6 ss i s (D:Int))):=BL.congr ay.o (λk _=>by rw[rS ss i s k,bl]);rw[bl]at aY;go_wp2_with fail;clear aY aC ar u ay;go_loopw [8] (λx W=>∃j:Nat,D<=j/\j<=D+m/\x=hA j/\E (BL W g n (i6 ss i s (j:Int)))/\E (AtP W P 0 (Spn.mk s.dst s.len)/\P<W.heap.size)/\E (Kept g (g+1) w W)) (λx _=>D+m-(intOf x).toNat)
 case atStart=>exact⟨D,yad,by omega,rfl,aM,aK,aO⟩
 case round=>
  exact xam):Zp:=h
theorem xah(h:Zp:=by
 go_wp2_with (first|(go_at_call 82;refine yaj (g.o _) ?_;rintro e ag ⟨rfl,rfl⟩)|(at_builtin;refine gF bg.o ca b2.o rfl _ _ rfl rfl rfl ?_;intro v' bj aP));have H:E _:=aP;clear aP bg;go_wp2;exact xaw):Zp:=h
theorem xai(h:Zp:=by
 go_enter func105,ntmps105
 go_wp2_with ((first
  |(go_at_call 106;refine(A.2 _ _ ao).mono ?_)
  |(go_at_call 15;refine(nxS ao.o).mono ?_)
  |(go_at_call 127;refine(J.2 _ _ ao).mono ?_)
  |(go_at_call 77;refine((D _).2 _ _ ao).mono ?_));rintro e aA ⟨rfl,aW⟩;clear ao;have ao:E _:=aW;clear aW)
 go_ret;exact⟨rfl,ao.o⟩):Zp:=h
theorem xaj(h:Zp:=by
 obtain⟨aQ,a8,bi,bk,aL,am,bG⟩:=bh.o.ex;have bT:Mv (Mst P u1 u2 u3 u4) az (Mst P aQ a8 bi bk) wr:=⟨am.chg,λb hb=>am.new b (.inl hb)⟩
 obtain⟨dd,cR,cT,cU⟩:=mw _ es st H aS.o k (hL ae.o aG) s xs aI.o;obtain⟨o,Z,c1,y,cV⟩:=m.o.call k (hL ae.o aG);obtain⟨bW,cS⟩:=cV s dd wr aQ a8 bi bk v.o cR aL ((Mv.of HK.o).trans bT);rw[<-m.o.cell ((Mv.of HK.o).trans bT).chg k]at y;have cK:E _:=cT;have cQ:E _:=cU;have cM:E _:=bW;have b1:E _:=cS;have aR:E _:=am;have b5:E _:=bG;have cO:E _:=(Mv.of (M:=Mst P u1 u2 u3 u4) HK.o).trans bT;clear cR cT cU bW cS cV aL am bG bT;rcases dd with⟨c,p⟩|⟨aU,U⟩
 ·exact xbt
 exact xaq):Zp:=h
theorem xak(h:Zp:=by
 have af:=z.o;generalize Lib.bytesWorld _ 5 _=bS at o b9 q;generalize wr.heap.size=aa at o b9;generalize grownCap _ _ 0 5=bV at o;go_upto_region 12 with (go_at_call 75;refine yaj (qU _ _ _ _ _ b9.o xaa) ?_;rintro e bc ⟨b5,c,rfl,B,bl⟩);have a5:E _:=(aI.o.trans q.o).trans (bl.kept 0 0);have r:=ab.o _ (q.o.trans (bl.kept 0 0));rcases x.o with⟨P,Q⟩|⟨p,au⟩
 ·exact xex
 exact xal):Zp:=h
theorem xal(h:Zp:=by
 have G:c=cb/\c≠0:=by
  exact xdd
 have Z:(c !=0)=true:=by unfold bne;rw[yax G.2];rfl
 have K:E _:=aK.o.trans a5.o;obtain⟨bP,aq,aN,fr⟩:=be.o _ K.o;have bG:=fr 0;have f1:=fr 1;have f2:=fr 2
 have ax:(((bc.drew.setCell ⟨aJ,0,none⟩ (.slice none 0 0)).setCell ⟨aJ,1,none⟩ (.slice none 0 0)).setCell ⟨aJ,2,none⟩ (.slice none 0 0)).cell? ⟨ap,i*3+1,none⟩=some (hA ps):=by
  exact xhj
 obtain⟨ba,aP,y2⟩:=fp _ _ _ _ _ bP aq aN (.slice none 0 0) (.slice none 0 0) (.slice none 0 0);have bD:(bc.setCell ⟨_,0,_⟩ _).cell? _=some (.slice none 0 0):=fy _ _ _ _ _ bP;have aQ:((bc.setCell ⟨aJ,0,_⟩ (.slice none 0 0)).setCell _ _).cell? _=some (.slice none 0 0):=fy _ _ _ _ _ ((eQ _ _ _ _ _ _ (.inr xaa)).trans aq);have H:E (Kept 0 0 w (((bc.drew.setCell _ (.slice none 0 0)).setCell _ (.slice none 0 0)).setCell _ (.slice none 0 0))):=Ax ((HK.o.trans K.o).trans (eG _)) (Nat.le_of_eq az.o) _ _ _;have cA:E _:=s.o p;have O:E _:=G.1;clear G au B p x b9 q o bl aY aC aL fr be;go_upto_region 13 with fail;go_region
 all_goals (
  go_wp2_with fail
  refine yaz (v:=.tuple #[v7,hA c,hA ps]) (by simp[results,results41,go_sem,bD,aQ,y2]) rfl ?_
  rw[<-bk.o,cA.o,<-O.o]
  exact⟨rfl,H.o⟩)):Zp:=h
theorem xam(h:Zp:=by
 obtain⟨j,aZ,aT,rfl,F,r,bO⟩:=hrel;obtain⟨aY,aC⟩:=r.o.1;rw[Nat.zero_add]at aC;go_wp2_with fail;refine yaj (HE.o _) ?_;rintro e af ⟨rfl,bF⟩;have J:E _:=BL.keep F.o bF yaa;have Q:E _:=Kept.trans bO.o (bF.mono (lo':=g) (hi':=g+1) λb _ c=>by omega);have O:E (AtP af P 0 (Spn.mk s.dst s.len)/\P<af.heap.size):=⟨AtP.keep r.o.1 r.o.2 bF yaa,yak r.o.2 bF.size⟩
 clear aY aC bF F bO r;simp only;by_cases ab:j<D+m
 ·exact xbg
 exact xes):Zp:=h
theorem xan(h:Zp:=by
 obtain⟨⟨aD,a5,a7,z,G,F⟩,bm,aO,b8,X,aT,ad,HM,HO⟩:=Y.op R aa m1 ae m3 ai;clear Y;unfold MvC;go_enter func141,ntmps141;go_wp2_with fail;rw[aT.o];clear aD a5 a7 z G F aT;refine fk (Ix HM xaa ?_);clear HM;unfold MfK;intros;rename_i wc K;obtain⟨f,aq,cap',Z,B,HM⟩:=K;obtain⟨_,_,aZ,ax,aU,_,_,_,_⟩:=HM.o.g;go_wp2_with fail;refine(MS.lst HM.o xaa (show(f.length:Int)-1=(vs.length:Nat) by have:=Z.o.2;omega)).mono ?_;clear HM aZ ax aU;rintro e m ⟨rfl,HM⟩;obtain⟨_,_,aZ,ax,aU,_,_,_,_⟩:=HM.o.g;go_wp2_with fail;refine(MS.orX HM.o _ _ xaa).mono ?_;clear HM aZ ax aU;rintro e ag ⟨vs2,x,q,u,n,c6,g,s,rfl,⟨_,br⟩,⟨_,ay⟩,⟨_,a0⟩,bZ,b5,b6,bl,HM⟩;go_wp2_with fail;rw[bl.o];clear bl br ay a0 bZ b5 b6;obtain⟨_,_,aZ,ax,aU,_,_,_,_⟩:=HM.o.g;go_wp2_with fail;refine(MS.orX HM.o _ _ xaa).mono ?_;clear HM aZ ax aU;rintro e ag ⟨S,I,y,H,l,c6,h,p,rfl,⟨_,br⟩,⟨_,ay⟩,⟨_,a0⟩,bZ,b5,b6,bl,HM⟩;go_wp2_with fail;rw[bl.o];clear bl br ay a0 bZ b5 b6;refine fk (xi HM xaa ?_);clear HM;unfold MfK;intros;rename_i wc K;obtain⟨j,aq,cap',J,b4,HM⟩:=K;go_wp2_with fail;have au:=GE xaa xaa Z.o.1 g.o h.o J.o.1;exact no_implicit_lambda% xbe):Zp:=h
theorem xao(h:Zp:=by
 obtain⟨k,O,rfl,aM⟩:=hrel;by_cases r:k<15
 ·exact xbn
 exact xbp):Zp:=h
theorem xap(h:Zp:=by
 clear ah N am f m S;go_wp2_with (first|(go_at_call 82;refine yaj (g.o _) ?_;rintro e ag ⟨rfl,rfl⟩)|(go_at_call 51;refine yaj (ct.o _) ?_;rintro e ag ⟨rfl,rfl⟩));refine yaj (HO.o _) ?_;rintro e ag ⟨u,rfl,aB,h,bl⟩;have b2:E (u<18446744073709551616/\fb u=fb (gD op C K P Q X k)):=⟨aB,by rw[h,HE.o]⟩
 replace bg:E _:=Grow.drawn bg.o bl;clear aB h bl;exact xah):Zp:=h
theorem xaq(h:Zp:=by
 obtain⟨bD,cc⟩:=cM.o aU U rfl;have ed:¬((U:Int)<0):=xaa;have cC:E _:=cQ.o aU U rfl;have cN:E _:=v.o.trans bD
 have c7:E (∀i∈xs++[U],i<aU.vs.length):=by
  exact xcp
 go_upto_region 41 with (go_at_call 101;refine yaj b1.o ?_;rintro e bc ⟨rfl,aP,y2,y3,y4,a6,bm⟩);have HFn:E _:=FtI.step aR.o b5.o bh.o.row a6 bm;have cG:E (az.heap.size<=bc.heap.size):=by show _<=_;have:=aR.o.chg.size;have:=bm.chg.size;omega
 have cP:E _:=cN.o.m;have b9:(bc.alloc (.cells #[hA U] 3)).cell? ⟨bc.heap.size,0,none⟩=some (hA U):=by rw[yav];rfl
 have a0:=ez 0 0 bc (.cells #[hA U] 3);have bg:E _:=HFn.o.keep a0;clear HFn bh aR b5 cO cM b1 cK cQ y a6 bm v O aI bD;go_wp2_with (first|(at_builtin;refine jt _ rfl _ _ rfl az.heap.size _ xs rfl bg.o.row ⟨bc.heap.size,0,none⟩ U rfl b9 ?c2 ?c3 ?_)|fail)
 case c2=>have:=ay.o;omega
 case c3=>have:=cG.o;simp;omega
 intro g9 cap9 n9 bj aw bM aN b6;have R1:E _:=FtI.app (st:=aU) (bq.o.keep HK.o) cP.o bg.o bM aN (b6.imp id (λe=>by rw[e];simp));exact xcn):Zp:=h
theorem xar(h:Zp:=by
 clear HM;unfold MfK;intros;rename_i wc K;obtain⟨f,aq,cap',Z,B,HM⟩:=K;obtain⟨_,_,aZ,ax,aU,_,_,_,_⟩:=HM.o.g;go_wp2_with fail;refine(MS.lst HM.o xaa (show(f.length:Int)-1=(vs.length:Nat) by have:=Z.o.2;omega)).mono ?_;clear HM aZ ax aU;rintro e m ⟨rfl,HM⟩;have aD:=HM.o.v.c0;have l:(0:Int)<=(vs.length:Nat):=xaa;obtain⟨_,_,aZ,ax,aU,_,_,_,_⟩:=HM.o.g;obtain⟨_,bn,aX,bb,bz,bo,bw⟩:=HM.o.b;go_wp2_with fail;obtain⟨ba,aP,y2⟩:=fp _ _ _ _ _ bn aX bb (.slice R m1 ae) (hz aq f.length cap') (.slice aa m3 ai);exact yaz (by simp[results,results141,go_sem,ba,aP,y2]) rfl (MS.fin HM.o hI (by rw[Z.o.1]<;>simp))):Zp:=h
theorem xas(h:Zp:=by
 obtain⟨⟨aD,a5,a7,z,G,F⟩,bm,aO,b8,X,aT,ad,HM,HO⟩:=Y.op R aa m1 ae m3 ai;clear Y;unfold MvC;go_enter func141,ntmps141;go_wp2_with fail;rw[aT.o];clear aD a5 a7 z G F aT;obtain⟨_,_,aZ,ax,aU,_,_,_,_⟩:=HM.o.g;refine(MS.orX HM.o _ _ xaa).mono ?_;clear HM aZ ax aU;rintro e ag ⟨f,v,m,l,j,c6,Z,B,rfl,⟨_,br⟩,⟨_,ay⟩,⟨_,a0⟩,bZ,b5,b6,bl,HM⟩;go_wp2_with fail;rw[bl.o];clear bl br ay a0 bZ b5 b6;obtain⟨_,_,aZ,ax,aU,_,_,_,_⟩:=HM.o.g;go_wp2_with fail;refine(MS.orX HM.o _ _ xaa).mono ?_;clear HM aZ ax aU;rintro e ag ⟨vs2,x,q,u,n,c6,g,s,rfl,⟨_,br⟩,⟨_,ay⟩,⟨_,a0⟩,bZ,b5,b6,bl,HM⟩;go_wp2_with fail;rw[bl.o];clear bl br ay a0 bZ b5 b6;refine fk (xi HM xaa ?_);clear HM;unfold MfK;intros;rename_i wc K;obtain⟨S,aq,cap',h,p,HM⟩:=K;go_wp2_with fail;have au:=GD xaa xaa Z.o g.o h.o.1;exact no_implicit_lambda% xbe):Zp:=h
theorem xat(h:Zp:=by
 intros;rename_i HK;have HC:E (∀az,Kept 0 0 W az->_):=λaz k=>MS.call HM.o k (eK 5 C aV vb 0) xaa;have aZ:=HM.o.g.c0;have ax:=HM.o.g.c1;have aU:=HM.o.g.c2;have z:=HM.o.v.c3;have G:E (∀W:World,_):=λW=>jO W R U aa m1 ae vs.length cap m3 ai xaa;rw[bC]at G;clear bC;conv=>arg 2;whnf
 go_region_with (first
  |(go_at_call 44;refine yaj (HC.o _ (((eG W).trans l).trans aw)) ?_;rintro e ag ⟨aq,cap',rfl,⟨u0,br⟩,⟨u1,ay⟩,⟨u2,a0⟩,al,_,aI⟩;have bZ:=al 0;have b5:=al 1;have b6:=al 2;clear al)
  |(go_at_call 47;refine yaj (G.o _) ?_;rintro e m ⟨rfl,l⟩;have bB:=(MS.keep HM.o ((eG W).trans l)).g.c0;have b8:=(MS.keep HM.o ((eG W).trans l)).g.c1;have cg:=(MS.keep HM.o ((eG W).trans l)).g.c2;have bi:=(MS.keep HM.o ((eG W).trans l)).v.c3)
  |(go_at_call 46;refine yaj (ij _ _ _ _ _ _) ?_;rintro e aA ⟨rfl,aw⟩;have bK:=(MS.keep HM.o (((eG W).trans l).trans aw)).g.c0;have bu:=(MS.keep HM.o (((eG W).trans l).trans aw)).g.c1;have p2:=(MS.keep HM.o (((eG W).trans l).trans aw)).g.c2))
 all_goals exact HK _ ⟨_,_,_,⟨rfl,by simp⟩,by simp,aI⟩):Zp:=h
theorem xau(h:Zp:=by
 refine⟨⟨#[102,105,108,108,40]⟩++ax++⟨#[44,32]⟩++aU++⟨#[41]⟩,aO,gj (by grind[fX]) xab λz X W ao=>?_⟩;repeat (rw[yar]at z;refine sz2 z ?_;clear z;intro _ z)
 exact xai):Zp:=h
theorem xav(h:Zp:=by
 generalize W.heap.size=aJ at av⊢;have bE:=av.o.c0;clear c0 c1 c2 K ae;go_upto_region 22 with fail;have aS:=av.o.c2;have am:=Lib.run_convert_string_bytes (P:=prog) az 9 22 5 ⟨bv.toArray⟩ underlying9 underlying22 underlying5;have b9:E _:=qF az 5 bv;have bB:E _:=mP az 5 ⟨bv.toArray⟩;have bX:(⟨bv.toArray⟩:ByteArray).size=bv.length:=rfl;rw[bX]at am;have o:(convert 9 22 (eN bv)).run prog az=_:=am;clear am bX;generalize Lib.bytesWorld az 5 ⟨bv.toArray⟩=bS at o b9 bB;generalize az.heap.size=aa at o b9;generalize grownCap az bv.length 0 5=bV at o;go_upto_region 23 with (go_at_call 75;refine yaj (qU bS _ _ _ _ b9.o xaa) ?_;rintro e bc ⟨f,c,rfl,B,bl⟩);obtain⟨rfl,rfl⟩:=rt bm.o B;have bO:E _:=bB.o.trans (bl.kept 0 0);have R:=(av.o.keep bO.o).c1;have a2:E _:=ah.o bc (HK.o.trans bO.o);clear ah b9 bB o bl B bE aS av bO HK bm;generalize oB bv=H at a2;go_wp2_with (go_at_call 104;refine yaj a2.o ?_;rintro e bp ⟨⟨x,rfl⟩,bd⟩);go_ret;exact bd.o):Zp:=h
theorem xaw(h:Zp:=by
 go_roundw;exact⟨k+1,by omega,by go_num,H⟩;simp[intOf];omega):Zp:=h
theorem xax(h:Zp:=by
 rintro e ag ⟨zs,rfl,(HM:E _)⟩;go_wp2;go_ret;exact Made.kres ⟨zs,rfl,HM.o⟩ ai.o λk _=>by simp[gD]):Zp:=h
theorem xay(h:Zp:=by
 refine⟨ax,aO,gj xaa xab λz X W ao=>?_⟩;repeat (rw[yar]at z;refine sz2 z ?_;clear z;intro _ z)
 exact xai):Zp:=h
theorem xaz(h:Zp:=by
 obtain⟨⟨aD,a5,a7,z,G,F⟩,bm,aO,b8,X,aT,ad,HM,HO⟩:=Y.op R aa m1 ae m3 ai;clear Y;unfold MvC;go_enter func141,ntmps141;go_wp2_with fail;rw[aT.o];clear aD a5 a7 z G F aT;refine fk (xl HM xaa ?_);exact no_implicit_lambda% xar):Zp:=h
theorem xba(h:Zp:=by
 go_wp2_with fail;exact xbd):Zp:=h
theorem xbb(h:Zp:=by
 clear HM;unfold PfK;intros;rename_i wc K;obtain⟨S,aq,cap',h,p,HM⟩:=K;go_wp2_with fail;refine fk (kj HM xaa (show(S.length:Int)-1=((vs.length:Nat)+2) by have:=Z.o.2;have:=g.o.2;have:=h.o.2;omega) ?_);unfold PfK;intros;rename_i aB K;obtain⟨ba,aP,y2,HR⟩:=K;go_wp2_with fail;exact yaz (by simp[results,results140,go_sem,ba,aP,y2]) rfl (MS.finPR HM.o HR.o (by rw[h.o.1,g.o.1,Z.o.1]<;>simp))):Zp:=h
theorem xbc(h:Zp:=by
 obtain⟨⟨aD,a5,a7,z,G,F⟩,bm,aO,b8,X,aT,ad,HM,HO⟩:=Y.op R aa m1 ae m3 ai;clear Y;unfold MvC;go_enter func141,ntmps141;go_wp2_with fail;exact yaz (by simp[results,results141,go_sem]) rfl (su HO.o (((ez 0 0 w _).trans (ez 0 0 _ _)).trans (ez 0 0 _ _)) _)):Zp:=h
theorem xbd(h:Zp:=by
 obtain⟨_,aY,aC,aL,_,_,_⟩:=ao.o.bx;have ah:=HC.o;go_region_with (first|(go_at_call 44;refine yaj (HF.o _ _ _ _ _ _ _ C.o H.o _ aR) ?_;rintro e ag ⟨aq,cap',rfl,aA,av⟩;obtain⟨_,br,ay,a0,bZ,b5,b6⟩:=aA)|(go_at_call 46;refine yaj (ij _ _ _ _ _ _) ?_;rintro e aB ⟨rfl,aR⟩;obtain⟨_,aZ,ax,aU,_,_,_⟩:=(C.o.keep aR).bx)|(go_at_call 15;refine yaj (ao.o.keep (eG _)).next ?_;rintro e aF ⟨rfl,(C:E _),bU⟩;have H:E _:=HK.o.trans ((e8 (eG _)).trans bU);obtain⟨_,bD,aQ,a8,_,_,_⟩:=C.o.bx;clear bU))
 all_goals
  go_wp2_with fail
  obtain⟨bn,aX,bb⟩:=fp ag (w.heap.size+1) _ _ _ br ay a0 (.slice a1 Z c1) (hz aq (vs.length+1) cap') (.slice a3 ab c3)
  exact yaz (v:=eZ a1 Z c1 (some ⟨aq,0,none⟩) (vs.length+1) cap' a3 ab c3) (by simp[results,results48,go_sem,bn,aX,bb]) rfl av):Zp:=h
theorem xbe(h:Zp:=by
 have HE:E _:=au;clear au;refine fk (sb (n:=53) xab HM xaa (HE.o.2) ?_);unfold MfK;intros;rename_i aB K;obtain⟨ba,aP,y2,HR⟩:=K;go_wp2_with fail;exact yaz (by simp[results,results141,go_sem,ba,aP,y2]) rfl (MS.finR HM.o HR.o HE.o.1)):Zp:=h
theorem xbf(h:Zp:=by
 unfold MfK;intros;rename_i aB K;obtain⟨ba,aP,y2,HR⟩:=K;go_wp2_with fail;exact yaz (by simp[results,results141,go_sem,ba,aP,y2]) rfl (MS.finR HM.o HR.o (by rw[Z.o.1]<;>simp))):Zp:=h
theorem xbg(h:Zp:=by
 have b9:=J.o.at_ j xaa;have a2:=J.o.free j;have R1:E (BL (af.setCell ⟨g,j,none⟩ (.bool true)) g n (i6 ss i s ((j+1:Nat):Int))):=BL.congr (BL.set J.o j xaa) (λk _=>ux ss i s j k xaa);have S:=eR (lo:=g) (hi:=g+1) af ⟨g,j,none⟩ (.bool true) yac;have R2:E _:=Kept.trans Q.o S;have R3:E (AtP (af.setCell ⟨g,j,none⟩ (.bool true)) P 0 (Spn.mk s.dst s.len)/\P<(af.setCell ⟨g,j,none⟩ (.bool true)).heap.size):=⟨AtP.keep O.o.1 O.o.2 S (hJ aN.o),yak O.o.2 S.size⟩
 have am:j<n:=xaa;generalize i6 ss i s (j:Int) j=z at b9;clear J Q O S;go_wp2;go_roundw;exact⟨j+1,by omega,by omega,by go_num,R1,R3,R2⟩;simp[intOf];omega):Zp:=h
theorem xbh(h:Zp:=by
 rcases C with C|C<;>exact⟨⟨#[112,117,116,40]⟩++ax++⟨#[44,32]⟩++sv++⟨#[44,32]⟩++e++⟨#[41]⟩,ni bs aO,gj WkS am λz X W ao=>WkE⟩):Zp:=h
theorem xbi(h:Zp:=by
 go_region_with (first
  |(go_at_call 44;refine yaj (HF.o _ ((eG _).trans bI)) ?_;rintro e ag ⟨us,aq,cap',rfl,bd,aA,av⟩;obtain⟨_,br,ay,a0,bZ,b5,b6⟩:=aA)
  |(go_at_call 46;refine yaj (ij _ _ _ _ _ _) ?_;rintro e f ⟨rfl,bI⟩;obtain⟨_,aY,aC,aL,_,_,_⟩:=(HD.o.keep ((eG _).trans bI)).bx))
 all_goals exact bL.o (L2.of HSV.o bd.o av)):Zp:=h
theorem xbj(h:Zp:=by
 unfold PfC;intros;rename_i HK;have HC:E (∀az,Kept 0 0 W az->_):=λaz k=>MS.call HM.o k (eK 4 C d i 0) xaa;exact xaf):Zp:=h
theorem xbk(h:Zp:=by
 generalize W.alloc (.cells #[hA 2,hA 3,hA 4,hA 5,hA 7] 3)=bk at*;clear bn aX bb F aD al;obtain⟨_,bn,aX,bb,F,aD,al⟩:=HD.o.bx;have bP:0<=(c:Int)/8:=xaa;have z:IntKind.i64.wrap ((c:Int)/8)=(c:Int)/8:=by rw[IntKind.wrap_i64];omega
 have G:((c:Int)/8).tmod 5=(q:Int):=(Int.tmod_eq_emod_of_nonneg bP).trans r;clear ah cf Z n2 y N g bP r;exact xbi):Zp:=h
theorem xbl(h:Zp:=by
 generalize f.vs.length=ds at*;generalize f.ins.length=ck at*;generalize f.outs.length=cw at*;go_upto_region 33 with (go_at_call 136;refine yaj bV.o ?_;rintro e af ⟨⟨R,ao,aa,aI,U,aw,rfl,aC,aL,b1,aY⟩,bF⟩);have bn:E (∀I,Kept 0 0 af I->_):=λI aj=>bG.o I R ao U aw aa aI (bF.trans aj) (eO aC aj) (eO aL aj) (eO b1 aj) aY;have cN:E (∀I,Kept 0 0 af I->_):=λI aj=>(bz.o.keep (bF.trans aj)).c1;clear aC aL b1 aY bG bV cI bK bu p2;have bf:=cN.o _ (ez 0 0 af (e9 R ck ao U g.length aw aa cw aI));have bY:E _:=bn.o _ (ez 0 0 af (e9 R ck ao U g.length aw aa cw aI));go_wp2_with (go_at_call 135;refine yaj bY.o ?_;rintro e bj ⟨⟨x,rfl⟩,bd⟩);go_ret;exact bd.o):Zp:=h
theorem xbm(h:Zp:=by
 go_wp2_with fail;exact xbo):Zp:=h
theorem xbn(h:Zp:=by
 have c1:=aM.o.c k r;have c2:=aM.o.n.t.c2;generalize q:keysL.getD k _=y at c1;go_upto_region 12 with fail;go_quiet (fail)
 have bO:E _:=aM.o.keep (eJ 0 0 _ nq);clear c1 c2 aM;generalize wr.drewN _=bc at bO⊢;have y2:=bO.o.n.t.c0;have y3:=bO.o.n.t.fr 0;have y4:=bO.o.n.t.c2;cases ap:(y==x)
 ·exact xer
 exact xev):Zp:=h
theorem xbo(h:Zp:=by
 obtain⟨_,aY,aC,aL,_,_,_⟩:=ao.o.bx;go_region_with (first|(go_at_call 44;refine yaj (HF.o _ _ _ _ _ _ _ ao.o HK.o _ ((eG _).trans aR)) ?_;rintro e ag ⟨aq,cap',rfl,aA,av⟩;obtain⟨_,br,ay,a0,bZ,b5,b6⟩:=aA)|(go_at_call 46;refine yaj (ij _ _ _ _ _ _) ?_;rintro e aB ⟨rfl,aR⟩;obtain⟨_,aZ,ax,aU,_,_,_⟩:=(ao.o.keep ((eG _).trans aR)).bx))
 all_goals
  go_wp2_with fail
  obtain⟨bn,aX,bb⟩:=fp ag (w.heap.size+1) _ _ _ br ay a0 (.slice a1 Z c1) (hz aq (vs.length+1) cap') (.slice a3 ab c3)
  exact yaz (v:=eZ a1 Z c1 (some ⟨aq,0,none⟩) (vs.length+1) cap' a3 ab c3) (by simp[results,results48,go_sem,bn,aX,bb]) rfl av):Zp:=h
theorem xbp(h:Zp:=by
 obtain rfl:k=15:=xaa;have G:E _:=aM.o.n;rw[show rJ x _=mh x from rfl]at G;obtain⟨_,br,ay,a0,al⟩:=G.o.r;obtain⟨_,bn,aX,bb,ak⟩:=G.o.t;have bZ:=al 0;have b5:=al 1;have b6:=al 2;have H:E _:=G.o.fin;generalize Z:mh x=v at bn H;have ab:E _:=Z;clear aM al ak G Z;go_wp2_with fail;change bodyPost _ _ _ _ _ (((wr.setCell _ (eN _)).setCell _ _).setCell _ (eN x));generalize ((wr.setCell _ _).setCell _ _).setCell _ _=aW at H⊢;obtain⟨⟨_,bG,f1,f2,_⟩,ai⟩:=H.o;refine yaz (v:=.tuple #[.agg #[eN v,hA i,eN x],hA j]) (by simp[results,results97,go_sem,bG,f1,f2]) rfl ⟨?_,ai⟩;rw[ar.o,ab.o];rfl):Zp:=h
theorem xbq(h:Zp:=by
 rcases C with C|C<;>rcases Ak aZ with⟨bn,bb⟩|⟨bn,bb⟩
 ·exact xbh
 ·exact xgb
 ·exact xbh
 exact xbh):Zp:=h
theorem xbr(h:Zp:=by
 have B:=HM.o.len1 hj m;have bm:0<=(j:Int):=xaa;have aO:(j:Int)<vs.length:=xaa;clear m;exact xad):Zp:=h
theorem xbs(h:Zp:=by
 obtain⟨⟨aD,a5,a7,z,G,F⟩,bm,aO,b8,X,aT,ad,HM,HO⟩:=Y.op R aa m1 ae m3 ai;clear Y;unfold MvC;go_enter func141,ntmps141;go_wp2_with fail;rw[aT.o];clear aD a5 a7 z G F aT;refine fk (MU HM xaa ?_);clear HM;unfold MfK;intros;rename_i wc K;obtain⟨f,aq,cap',Z,B,HM⟩:=K;go_wp2_with fail;refine fk (sb (n:=6) xab HM xaa (show(f.length:Int)-1=(vs.length:Nat) by have:=Z.o.2;omega) ?_);exact no_implicit_lambda% xbf):Zp:=h
theorem xbt(h:Zp:=by
 have bI:E (r=.error (c,p)):=by show _=_;rw[HR.o,cK.o _ rfl];rfl
 go_wp2_with (go_at_call 101;refine yaj b1.o ?_;rintro e bc ⟨rfl,bd⟩);go_ret;rw[bI.o];exact TrO.after cO.o ⟨rfl,bd⟩):Zp:=h
theorem xbu(h:Zp:=by
 clear f;exact xah):Zp:=h
theorem xbv(h:Zp:=by
 obtain⟨⟨aD,a5,a7,z,G,F⟩,bm,aO,b8,X,aT,ad,HM,HO⟩:=Y.op R aa m1 ae m3 ai;clear Y;unfold PtC;go_enter func140,ntmps140;go_wp2_with fail;rw[aT.o];clear aD a5 a7 z G F aT;refine fk (M8 HM xaa ?_);exact no_implicit_lambda% xae):Zp:=h
theorem xbw(h:Zp:=by
 obtain⟨⟨aD,a5,a7,z,G,F⟩,bm,aO,b8,X,aT,ad,HM,HO⟩:=Y.op R aa m1 ae m3 ai;clear Y;unfold PtC;go_enter func140,ntmps140;go_wp2_with fail;exact yaz (by simp[results,results140,go_sem]) rfl (xL HO.o (((ez 0 0 w _).trans (ez 0 0 _ _)).trans (ez 0 0 _ _)) _ _)):Zp:=h
theorem xbx(h:Zp:=by
 have z:=HM.o.v.c3;exact xad):Zp:=h
theorem xby(h:Zp:=by
 go_region_held3 (λB=>B.cell? ⟨Q,0,none⟩=some (hA (j9 s).op)/\B.cell? ⟨Q,1,none⟩=some (hA (j9 s).len)/\B.cell? ⟨Q,2,none⟩=some (hA (j9 s).a)/\B.cell? ⟨Q,3,none⟩=some (hA (j9 s).b)/\B.cell? ⟨Q,4,none⟩=some (hA (j9 s).c)/\B.cell? ⟨Q,5,none⟩=some (.float .f64 (j9 s).k)) (go_keep) (first|(go_at_call 65;refine yaj (p.o 1) ?_;rintro e ci ⟨rfl,bI,bF⟩;obtain⟨_,⟨bD,aQ,a8,bi,bk,K⟩,_,_⟩:=FB.keep v.o bF;simp only[Nat.zero_add]at aQ a8 bi bk K))
 all_goals
  go_wp2
  go_ret
  exact⟨hO g.o,bI⟩):Zp:=h
theorem xbz(h:Zp:=by
 go_wp2_with (first|(go_at_call 100;refine yaj (br.o _ _ bB.o) ?_;rintro e aF ⟨rfl,aB⟩)|fail);exact xdi):Zp:=h
theorem xca(h:Zp:=by
 go_round
 case rel=>exact⟨k+1,by omega,by go_num,H⟩
 case measure=>simp[intOf];omega):Zp:=h
theorem xcb(h:Zp:=by
 have af:=sF x.o;generalize Lib.bytesWorld wr 5 ⟨bv.toArray⟩=bS at o b9 q;generalize wr.heap.size=aa at o b9;generalize grownCap wr bv.length 0 5=bV at o;go_upto_region 12 with (go_at_call 75;refine yaj (qU bS _ _ _ _ b9.o xaa) ?_;rintro e bc ⟨b5,c,rfl,B,bl⟩);obtain⟨_,rfl⟩:=rt x.o B;have a5:E _:=(aI.o.trans q.o).trans (bl.kept 0 0);clear o b9 q B bl aY aL x;exact xcw):Zp:=h
theorem xcc(h:Zp:=by
 have X:E (r=.error (c,p)):=by show _=_;rw[bI.o];unfold mx;rw[<-bY.o]
 go_wp2_with (go_at_call 120;refine yaj ad.o ?_;rintro e bc ⟨rfl,bd⟩);go_ret;rw[X.o];exact⟨rfl,bd.1,bd.2.1,((Mv.of HK.o).trans aR.o).bad bd.2.2⟩):Zp:=h
theorem xcd(h:Zp:=by
 go_roundw;exact⟨trivial,k+1,by omega,by go_num,H⟩;simp[intOf];omega):Zp:=h
theorem xce(h:Zp:=by
 refine⟨aZ,ni bs bm,gj xaa xab λz X W ao=>?_⟩;repeat (rw[yar]at z;refine sz2 z ?_;clear z;intro _ z)
 exact xai):Zp:=h
theorem xcf(h:Zp:=by
 go_enter func127,ntmps127;go_wp2_with (first|(go_at_call 15;refine yaj bm.o ?_;rintro e aA ⟨rfl,aD,aw,aQ⟩)|(go_at_call 77;refine yaj (HD.o _) ?_;rintro e ag ⟨rfl,rfl⟩));go_ret;exact⟨rfl,aD,aw,aQ⟩):Zp:=h
theorem xcg(h:Zp:=by
 go_wp2;exact xca):Zp:=h
theorem xch(h:Zp:=by
 go_wp2_with fail;go_roundw;exact⟨k+1,bg,aa,by omega,by omega,by go_num,rfl,by rw[H.o],by omega,p,h,aT,K,aI⟩;simp[intOf];omega):Zp:=h
theorem xci(h:Zp:=by
 clear HM;unfold PfK;intros;rename_i wc K;obtain⟨vs2,aq,cap',g,s,HM⟩:=K;go_wp2_with fail;refine fk (kj HM xaa (show(vs2.length:Int)-1=((vs.length:Nat)+1) by have:=Z.o.2;have:=g.o.2;omega) ?_);unfold PfK;intros;rename_i aB K;obtain⟨ba,aP,y2,HR⟩:=K;go_wp2_with fail;exact yaz (by simp[results,results140,go_sem,ba,aP,y2]) rfl (MS.finPR HM.o HR.o (by rw[g.o.1,Z.o.1]<;>simp))):Zp:=h
theorem xcj(h:Zp:=by
 clear aU l ah a2;go_wp2_with fail;go_region
 all_goals
  go_wp2
  go_roundw;exact⟨ag,G,j+1,rfl,rfl,by go_num,by omega,n,H,bd,N.o.keep (eG _),Kept.drew F.o⟩;simp[intOf];omega):Zp:=h
theorem xck(h:Zp:=by
 have bI:E (r=.error (c,p)):=by show _=_;rw[HR.o,HE.o _ rfl];rfl
 go_wp2_with (go_at_call 101;refine yaj bZ.o ?_;rintro e aF ⟨rfl,bd⟩);go_ret;rw[bI.o];exact TrO.back HK.o ⟨rfl,bd⟩):Zp:=h
theorem xcl(h:Zp:=by
 clear HM;unfold MfK;intros;rename_i wc K;obtain⟨f,aq,cap',Z,B,HM⟩:=K;go_wp2_with fail;refine fk (sb (n:=59) xab HM xaa (show(f.length:Int)-1=(vs.length:Nat) by have:=Z.o.2;omega) ?_);exact no_implicit_lambda% xbf):Zp:=h
theorem xcm(h:Zp:=by
 refine⟨⟨_,_,_,_,aK,⟨bx.bad ⟨bv.chg.os,bv.chg.tape,bv.chg.output,bv.chg.size,λi hi ad=>bv.chg.block i hi (λc=>ad (.inl c))⟩,λb hb=>?_⟩,λb hb c=>?_⟩,fi X bv.chg aZ⟩
 ·exact xfm
 rcases bv.new b c with d|d
 ·grind
 have:=(eH X hb).2;omega):Zp:=h
theorem xcn(h:Zp:=by
 clear bM aN b6 aw a0 b9;go_wp2_with fail;go_roundw;exact⟨k+1,aU,xs++[U],by omega,by omega,by go_num,by rw[yal,ay.o];rfl,cC,R1,cN,c7⟩;simp[intOf];omega):Zp:=h
theorem xco(h:Zp:=by
 have S:=ft I (w.heap.size+1) (.slice R Z ae) (.slice U vs.length cap) (.slice aa ab ai);have hb:=h.hb
 have aB:∀{e size n:Nat}{v:Value}{xs:List _},W.ownsRow base e size v n xs->(fw I _ _ _ _).ownsRow w.heap.size e _ v n _:=λho=>
  iE (f9 (eO ho k) S (λg aJ=>hJ ((eH ho aJ).1))) xaa
 exact⟨⟨aB h.i,aB h.g.own,aB h.o⟩,Kept.new (h.k.trans k) S xaa⟩):Zp:=h
theorem xcp(h:Zp:=by
 intro i hi;rcases List.mem_append.1 hi with hi|hi
 ·exact yak (O.o i hi) bD.n
 simp at hi;subst hi;exact cc):Zp:=h
theorem xcq(h:Zp:=by
 rw[eM]at h;cases F:eM f st u a with
 |none=>rw[F]at h;cases h
 |some ay=>
  rw[F]at h;rcases ay with⟨c,p⟩|⟨ax,x⟩
  ·cases h;exact⟨_,rfl,rfl⟩
  cases h;exact⟨_,rfl,rfl⟩):Zp:=h
theorem xcr(h:Zp:=by
 go_wp2_with (first|(go_at_call 100;refine yaj (br.o _ _ aK.o) ?_;rintro e bc ⟨rfl,aB⟩)|fail);go_ret;rw[H.o];exact⟨rfl,aB.c5,aB.c6,(Mv.of aK.o).bad aB.chg⟩):Zp:=h
theorem xcs(h:Zp:=by
 clear q bO;go_wp2_with fail;exact xaw):Zp:=h
theorem xct(h:Zp:=by
 clear hb;go_wp2;exact xcd):Zp:=h
theorem xcu(h:Zp:=by
 go_region_with (first
  |(go_at_call 46;refine yaj (ij _ _ _ _ _ _) ?_;rintro e aF ⟨rfl,aR⟩;have f:=(y.o.keep ((eG ag).trans aR)).c1)
  |(go_at_call 104;refine yaj (bY.o _ (bB.o.trans ((eG ag).trans aR))) ?_;rintro e bc ⟨⟨x,rfl⟩,bd⟩))
 all_goals (go_wp2_with fail;go_ret;rw[H.o];exact bd.o)):Zp:=h
theorem xcv(h:Zp:=by
 go_enter func86,ntmps86;go_wp2_with (first|(go_at_call 110;refine yaj (bm.o _ _) ?_;rintro e ag ⟨rfl,rfl⟩)|fail);go_ret;exact⟨rfl,rfl⟩):Zp:=h
theorem xcw(h:Zp:=by
 go_wp2_with fail;go_roundw;exact⟨i+1,by omega,by go_num,a5⟩;simp[intOf];omega):Zp:=h
theorem xcx(h:Zp:=by
 go_wp2_with (go_at_call 122;refine yaj Z.o ?_;rintro e ag ⟨rfl,aB⟩);exact xec):Zp:=h
theorem xcy(h:Zp:=by
 go_region_with (first
  |(go_at_call 46;refine yaj (ij _ _ _ _ _ _) ?_;rintro e aF ⟨rfl,aR⟩;have f:=(y.o.keep ((eG ag).trans aR)).c1)
  |(go_at_call 104;refine yaj (ah.o _ ((eG ag).trans aR)) ?_;rintro e bc ⟨⟨x,rfl⟩,bd⟩))
 all_goals (go_wp2_with fail;go_ret;exact bd.o)):Zp:=h
theorem xcz(h:Zp:=by
 go_region_with (first|(go_at_call 34;refine(bA.o _).mono ?_;rintro e ag ⟨rfl,rfl⟩)|(go_at_call 62;refine(bu.o _).mono ?_;rintro e ag ⟨rfl,rfl⟩)|(go_at_call 65;refine(aW.o 1).mono ?_;rintro e ag ⟨rfl,O⟩))
 all_goals
  go_wp2_with fail
  go_meet
  exact⟨rfl,(eJ 0 0 _ 1).trans O⟩):Zp:=h
theorem xda(h:Zp:=by
 go_wp2;go_roundw;exact⟨k+1,by omega,by go_num,R1,R2⟩;simp[intOf];omega):Zp:=h
theorem xdb(h:Zp:=by
 rw[yat (by rw[fd];exact hj)]at aB;exact .inr ⟨by omega,by rw[yat (by rw[fd];exact hj)];exact aB⟩):Zp:=h
theorem xdc(h:Zp:=by
 obtain⟨aU,P,E2⟩:=G (1) xaa (aO);rcases Ak aZ with⟨bn,bb⟩|⟨bn,bb⟩
 ·exact xjb
 exact xfo):Zp:=h
theorem xdd(h:Zp:=by
 rcases Ab B with⟨F,_⟩|⟨F,N⟩
 ·exact xhw
 exact xez):Zp:=h
theorem xde(h:Zp:=by
 generalize (⟨_⟩:ByteArray)=h at HD bv⊢;exact xcf):Zp:=h
theorem xdf(h:Zp:=by
 have c:∀o,(fw aA _ _ _ _).cell? _=aA.cell? ⟨_,o,none⟩:=λo=>S.cell aO (by simp_all);have ca:∀o,(fw aA _ _ _ _).frozen? _=aA.frozen? ⟨_,o,none⟩:=λo=>S.frozen aO (by simp_all);exact⟨yak aO S.size,by grind,by grind,by grind,by grind,by grind,by grind⟩):Zp:=h
theorem xdg(h:Zp:=by
 have a:r.testBit i=false:=Nat.testBit_lt_two_pow (yak hb (nK xaa));have b:(2 ^ 63+r).testBit i=false:=Nat.testBit_lt_two_pow (yak (show 2 ^ 63+r<2 ^ 64 by omega) (nK xaa));rw[a,b,show decide _=false from yay xaa];rfl):Zp:=h
theorem xdh(h:Zp:=by
 go_enter func83,ntmps83;go_wp2;go_ret;exact⟨_,rfl,gJ _ _ _ _,gl _ _ _ _,_,rfl⟩):Zp:=h
theorem xdi(h:Zp:=by
 go_ret;rw[H.o];exact⟨rfl,aB.c5,aB.c6,(Mv.of bB.o).bad aB.chg⟩):Zp:=h
theorem xdj(h:Zp:=by
 clear a2;go_enter func19,ntmps19;go_wp2_with fail;generalize g:(w.alloc (e9 a1 Z l (some ⟨aN,bT,none⟩) n2 c2 a3 ab c3)).alloc (fH 0 len A J C K)=n at bB aY aC aL bS aH bf Y bC bZ⊢;clear g;go_quiet (fail)
 go_wp2;go_ret;exact⟨rfl,bB.o.trans (eJ 0 0 _ _)⟩):Zp:=h
theorem xdk(h:Zp:=by
 go_wp2_with fail;go_roundw;exact⟨trivial,j+1,by omega,by go_num,by rw[H.o],by rw[H.o]⟩;simp[intOf];omega):Zp:=h
theorem xdl(h:Zp:=by
 go_wp2_with (go_at_call 101;refine yaj bZ.o ?_;rintro e ag ⟨rfl,bd⟩);go_ret;rw[HR.o];exact TrO.back HK.o ⟨rfl,bd⟩):Zp:=h
theorem xdm(h:Zp:=by
 refine⟨N.bad ⟨bu.os,bu.tape,bu.output,bu.size,λi hi ad=>bu.block i hi (λc=>ad (.inr c))⟩,λb hb=>?_⟩;rcases hb with c|c
 ·exact N.new b (.inl c)
 exact xgs):Zp:=h
theorem xdn(h:Zp:=by
 go_roundw;exact⟨k+1,by omega,by go_num,R3⟩;simp[intOf];omega):Zp:=h
theorem xdo(h:Zp:=by
 go_enter func69,ntmps69;go_wp2;go_ret;exact⟨rfl,rfl⟩):Zp:=h
theorem xdp(h:Zp:=by
 obtain⟨aY,aC,_,_,ba,cn⟩:=bA.o I aj;have bf:=(bO.o.keep aj).lt;have c8:=yak ak aj.size;exact⟨(bV.cell (p:=⟨aJ,1,none⟩) bf cq).trans aC,(bV.cell (p:=⟨au,of,none⟩) c8 bX).trans ba,(bV.cell (p:=⟨au,of+1,none⟩) c8 bX).trans cn⟩):Zp:=h
theorem xdq(h:Zp:=by
 go_wp2_with (first|(go_at_call 51;refine yaj (a5.o _) ?_;rintro e cl ⟨rfl,rfl⟩)|fail);clear aP bD aQ a8 bi bk K;go_roundw;exact⟨i-1,j+1,by go_num,hJ fM.o,hJ fM.o,R2⟩;simp[intOf];omega):Zp:=h
theorem xdr(h:Zp:=by
 rw[bU]at aO;subst aO;rcases a7 with c|c
 ·exact ar _ O c
 have:=(eH ho O).2;omega):Zp:=h
theorem xds(h:Zp:=by
 go_wp2_with fail;refine yaj F.o ?_;rintro e ci ⟨rfl,(R1:E _),bI⟩;have R2:E _:=Kept.trans aD.o bI;clear F bI;exact xda):Zp:=h
theorem xdt(h:Zp:=by
 clear f af ad bh e;generalize eU _=cv at ar bb ah;go_enter func126,ntmps126;go_wp2_with fail;refine yaj ar.o ?_;rintro e ag ⟨rfl,ak⟩;have H:E _:=Kept.trans HK.o ak;clear ak ar;go_wp2;go_ret;exact⟨rfl,H.o⟩):Zp:=h
theorem xdu(h:Zp:=by
 go_wp2;go_ret;exact⟨hO H.o,R2.o,λh=>by rw[H.o]at h;cases h⟩):Zp:=h
theorem xdv(h:Zp:=by
 go_enter func65,ntmps65;go_wp2;go_quiet ((first|(go_at_call 34;exact Calls.quiet_of_same (fD _ _))|(go_at_call 56;exact Calls.quiet_of_same (hY _ _ _))))
 go_wp2;go_ret;exact⟨rfl,(ez _ _ _ _).trans (eJ _ _ _ _)⟩):Zp:=h
theorem xdw(h:Zp:=by
 rintro e B ⟨rfl,rfl⟩;go_wp2;go_ret;exact⟨_,rfl,rfl,by omega,0,rfl⟩):Zp:=h
theorem xdx(h:Zp:=by
 clear O;go_wp2;go_ret;exact⟨_,rfl,(gl _ _ _ _).trans bq.o.symm,gJ _ _ _ _,F.drw _,ao.trans (eJ _ _ _ _)⟩):Zp:=h
theorem xdy(h:Zp:=by
 subst aO;have f:(Value.slice U (vs0++M.1).length cap).ownBlock≠some (w.heap.size+1):=hL h.g.row h.n1
 exact⟨_,_,_,rfl,eI (eI (eI (eO h.g.own k) f) f) f,h.g.row,(h.s.keepQ k).new (ft _ _ _ _ _) xaa⟩):Zp:=h
theorem xdz(h:Zp:=by
 rcases List.mem_append.1 aB with c|c
 ·exact f.dg.k u c
 simp only[List.mem_singleton]at c;subst c;exact aO):Zp:=h
theorem xea(h:Zp:=by
 rcases hb with c|c|c|c|c
 ·exact .inl (.inl c)
 ·exact .inr (yao f (eH ay c).1)
 ·exact .inr (yao f (eH a0 c).1)
 ·exact .inr (yao f (eH ch c).1)
 exact .inl (.inr (.inr (.inr (.inr c))))):Zp:=h
theorem xeb(h:Zp:=by
 unfold MfK;intros;rename_i aB K;obtain⟨ba,aP,y2,HR⟩:=K;go_wp2_with fail;exact yaz (by simp[results,results141,go_sem,ba,aP,y2]) rfl (MS.finR HM.o HR.o (by rw[h.o.1,g.o.1,Z.o.1]<;>simp))):Zp:=h
theorem xec(h:Zp:=by
 go_ret;rw[HR.o];exact⟨rfl,aB.c5,aB.c6,(Mv.of HK.o).bad aB.chg⟩):Zp:=h
theorem xed(h:Zp:=by
 have H:E (nf ss i n s=false):=by show _=_;unfold nf;rw[Y];rfl
 have R2:E _:=(HK.o.mono (lo':=g) (hi':=g+1) λb _ c=>by omega)
 exact xdu):Zp:=h
theorem xee(h:Zp:=by
 go_wp2_with fail;exact xdn):Zp:=h
theorem xef(h:Zp:=by
 have F:∀g,(Value.slice _ _ _).ownBlock=some g->H≠some g:=λg aJ=>by rw[<-h.g.row];exact ar g aJ
 refine⟨F,λc=>?_,λg aJ=>?_⟩
 ·have:=(eH ho c).1;have:=h.hb;omega
 rw[z];exact f g (eH ho aJ).2 (F g aJ)):Zp:=h
theorem xeg(h:Zp:=by
 go_upto_region 23 with fail;go_region
 all_goals (
  go_wp2_with fail
  refine yaz (v:=.tuple #[v7,hA c,hA p]) (by simp[results,results41,go_sem,bD,aQ,y2]) rfl ?_
  rw[bx.o]
  exact⟨rfl,H.o⟩)):Zp:=h
theorem xeh(h:Zp:=by
 clear a2;exact xcg):Zp:=h
theorem xei(h:Zp:=by
 go_enter func121,ntmps121;go_wp2;go_ret;exact⟨rfl,rfl⟩):Zp:=h
theorem xej(h:Zp:=by
 clear h aM;go_enter func5,ntmps5;go_wp2_with fail;refine yaj bE.o ?_;rintro e aA ⟨rfl,aw⟩;obtain⟨_,aY,aC,aL⟩:=aT.keep aw;clear aT;go_wp2;go_ret;exact⟨rfl,aI.o.trans aw⟩):Zp:=h
theorem xek(h:Zp:=by
 go_wp2_with fail;refine(iX _ _ _ _ _ _ _ K).mono ?_;rintro e ag ⟨rfl,N,aw,b0⟩;clear b0;go_wp2;go_roundw;exact⟨j+1,by omega,by go_num,rfl,N,aT.trans aw⟩;simp[intOf];omega):Zp:=h
theorem xel(h:Zp:=by
 have F:=aI.o;rw[yap (by rw[ae.o];decide),aS.o]at F;exact hE F):Zp:=h
theorem xem(h:Zp:=by
 go_enter func53,ntmps53;go_wp2;go_ret;exact⟨rfl,rfl⟩):Zp:=h
theorem xen(h:Zp:=by
 rw[hD c,hD c];exact congrArg _ (gG _ (gQ ar k) (gQ hb k))):Zp:=h
theorem xeo(h:Zp:=by
 go_enter func92,ntmps92;go_wp2_with fail;go_quiet (fail)
 go_wp2_with fail;refine yaz (v:=.tuple #[]) (by simp[results,results92,go_sem]) rfl ?_;exact⟨rfl,eJ 0 0 w _⟩):Zp:=h
theorem xep(h:Zp:=by
 rw[List.drop_succ_cons,List.drop_succ_cons,List.drop_zero,show ts++[c,n,q]=(ts++c::[n])++[q] by simp,List.take_append_of_le_length yag,yap yag]):Zp:=h
theorem xeq(h:Zp:=by
 rcases aJ with c|c
 ·grind
 have:=f.rs.sz;have:=f.bx.sz;omega):Zp:=h
theorem xer(h:Zp:=by
 have H:E _:=bO.o.miss r (by rw[q];intro c;rw[c]at ap;simp at ap);exact xcs):Zp:=h
theorem xes(h:Zp:=by
 have R1:E (BL af g n (i6 ss i s (s.dst+s.len))):=by
  exact xiw
 go_wp2;go_ret;exact⟨hO H.o,Q.o,λ_=>R1.o⟩):Zp:=h
theorem xet(h:Zp:=by
 have:=R2.o;rw[<-bv.o,<-cA.o]at this;rw[List.range_succ,List.map_append];exact this):Zp:=h
theorem xeu(h:Zp:=by
 go_roundw
 case rel=>
  exact xgl
 case measure=>simp[intOf];omega):Zp:=h
theorem xev(h:Zp:=by
 have H:E _:=bO.o.hit r (by rw[q];simpa using ap);exact xcs):Zp:=h
theorem xew(h:Zp:=by
 go_enter func30,ntmps30;go_wp2;go_ret;exact⟨hO H.o,HK.o⟩):Zp:=h
theorem xex(h:Zp:=by
 obtain⟨_,rfl⟩:=rt Q B;clear o b9 q B bl aY aC aL x Q r;exact xcw):Zp:=h
theorem xey(h:Zp:=by
 have:=a2.o;rw[yap (hN HL.o)]at this;exact this):Zp:=h
theorem xez(h:Zp:=by
 refine⟨?_,N⟩;rcases F with⟨a1,U⟩|⟨a1,U,a3⟩<;>rcases au with⟨R,aS⟩|⟨R,aS,aa⟩
 ·rw[U,aS]
 ·exact absurd R a1
 ·exact absurd a1 R
 rw[a3,aa]):Zp:=h
theorem xfa(h:Zp:=by
 rcases au.row with c|⟨r,c,aD⟩
 ·exact .inl c.symm
 cases c;exact .inr aD):Zp:=h
theorem xfb(h:Zp:=by
 go_roundg (gk-1)
 case measure=>omega
 case rel=>
  exact xgu):Zp:=h
theorem xfc(h:Zp:=by
 show _<=_;rw[jm vs n2 xaa,yap xaa];exact cG):Zp:=h
theorem xfd(h:Zp:=by
 go_enter func109,ntmps109;go_wp2_with fail;refine(oL _ _).mono ?_;exact xdw):Zp:=h
theorem xfe(h:Zp:=by
 rintro (c|c|c|c|c)
 ·have:=h.lt;omega
 ·have:=(eH h.r1 c).2;omega
 ·have:=(eH h.r2 c).2;omega
 ·have:=(eH h.r3 c).2;omega
 have:=(eH h.r4 c).2;omega):Zp:=h
theorem xff(h:Zp:=by
 rw[e];go_enter func115,ntmps115;go_wp2;go_ret;exact⟨rfl,rfl⟩):Zp:=h
theorem xfg(h:Zp:=by
 clear aj;go_wp2_with fail;go_quiet (fail)
 go_wp2;go_ret;exact⟨by rw[R1.o,H.o];rfl,(bB.o.trans (Drawn.kept HD.o 0 0)).trans (eJ 0 0 _ _)⟩):Zp:=h
theorem xfh(h:Zp:=by
 go_wp2_with fail;go_quiet ((go_at_call 56;exact Calls.quiet_of_same (aM.o _)))
 go_wp2;go_ret;exact⟨hO g.o,HK.o.trans (eJ 0 0 _ _)⟩):Zp:=h
theorem xfi(h:Zp:=by
 go_enter func65,ntmps65;go_wp2;go_ret;exact⟨rfl,ez _ _ _ _⟩):Zp:=h
theorem xfj(h:Zp:=by
 go_enter func66,ntmps66;go_wp2;go_ret;exact⟨rfl,ez _ _ _ _⟩):Zp:=h
theorem xfk(h:Zp:=by
 rw[af]at aB;exact⟨_,_,rfl,⟨_,(e 0).trans F.g.c0⟩,⟨_,(e 1).trans F.g.c1⟩,⟨_,(e 2).trans F.g.c2⟩,λo=>by rw[j];exact F.g.free o,aB⟩):Zp:=h
theorem xfl(h:Zp:=by
 rw[show 0x7ff0000000000000=9218868437227405312 from rfl,e];refine⟨?_,Ng xaa⟩;rw[show f64.read _=_ from pT xaa xaa];rfl):Zp:=h
theorem xfm(h:Zp:=by
 rcases hb with c|c
 ·exact xhc
 exact bx.new b (.inr c)):Zp:=h
theorem xfn(h:Zp:=by
 rw[yai,yam af]at h;simp only[Option.getD_some]at h;rw[yau af];grind):Zp:=h
theorem xfo(h:Zp:=by
 rcases C with C|C<;>exact⟨⟨#[106,118,112,40]⟩++ax++⟨#[44,32]⟩++aZ++⟨#[44,32]⟩++aU++⟨#[41]⟩,P,gj WkS am λz X W ao=>WkE⟩):Zp:=h
theorem xfp(h:Zp:=by
 go_wp2_with fail;go_quiet ((go_at_call 56;exact Calls.quiet_of_same (aM.o _)))
 go_wp2;go_ret;exact⟨rfl,aK.o.trans (eJ 0 0 _ _)⟩):Zp:=h
theorem xfq(h:Zp:=by
 go_wp2_with (go_at_call 101;refine yaj cx.o ?_;rintro e aF ⟨rfl,bd⟩);go_ret;rw[HR.o];exact TrO.after bQ.o ⟨rfl,bd⟩):Zp:=h
theorem xfr(h:Zp:=by
 go_wp2_with (go_at_call 101;refine yaj bZ.o ?_;rintro e aF ⟨rfl,bd⟩);go_ret;rw[HR.o];exact TrO.back bB.o ⟨rfl,bd⟩):Zp:=h
theorem xfs(h:Zp:=by
 go_roundw
 case rel=>
  exact xhv
 case measure=>simp[intOf];omega):Zp:=h
theorem xft(h:Zp:=by
 have F:=f.k0.size;have N:=bd.size;rw[aj.block b xaa xaa,bd.block b xaa (λq=>by grind)];exact f.k0.block b hb ad):Zp:=h
theorem xfu(h:Zp:=by
 go_enter func34,ntmps34;go_wp2;go_ret;exact⟨rfl,rfl⟩):Zp:=h
theorem xfv(h:Zp:=by
 go_enter func56,ntmps56;go_wp2;go_ret;exact⟨rfl,rfl⟩):Zp:=h
theorem xfw(h:Zp:=by
 go_enter func93,ntmps93;go_wp2;go_ret;exact⟨rfl,rfl⟩):Zp:=h
theorem xfx(h:Zp:=by
 rcases hb with c|c|c|c|c
 ·subst c;exact F.lt
 ·exact(eH F.r1 c).2
 ·exact(eH F.r2 c).2
 ·exact(eH F.r3 c).2
 exact(eH F.r4 c).2):Zp:=h
theorem xfy(h:Zp:=by
 rw[c8]at cr;go_wp2;go_roundw;exact⟨q+1,by omega,hO cr.o,by go_num,R1,R2⟩;simp[intOf];omega):Zp:=h
theorem xfz(h:Zp:=by
 go_wp2_with fail;refine yaj ar.o ?_;rintro e ag ⟨⟨r,rfl,aD⟩,rfl⟩;go_wp2;go_ret;exact⟨by rw[<-aD];rfl,rfl⟩):Zp:=h
theorem xga(h:Zp:=by
 clear t l bx;go_wp2_with fail;refine yaj HD.o ?_;rintro e B ⟨rfl,rfl⟩;go_wp2;go_ret2
 exact⟨0,2,rfl,H.o,bq⟩):Zp:=h
theorem xgb(h:Zp:=by
 rcases C with C|C<;>exact⟨⟨#[103,114,97,100,40]⟩++ax++⟨#[44,32]⟩++aZ++⟨#[41]⟩,aO,gj WkS am λz X W ao=>WkE⟩):Zp:=h
theorem xgc(h:Zp:=by
 have:=j.2.2;rw[aD]at this;exact yao this xaa):Zp:=h
theorem xgd(h:Zp:=by
 obtain⟨g,c,e,_,aJ,_,a2⟩:=mX h.g.own ad rfl;injection e with ae a9 ai;subst ae;exact⟨g,rfl,h.g.row.symm,aJ,a2.at_⟩):Zp:=h
theorem xge(h:Zp:=by
 have e:b=g:=by simpa[Value.ownBlock] using h.symm
 subst e;exact xeq):Zp:=h
theorem xgf(h:Zp:=by
 have F:=a2.o;rw[show k=m by omega]at F;show inB ins r=true;unfold inB;rw[HL.o.1,HL.o.2,F,decide_eq_true rfl];rfl):Zp:=h
theorem xgg(h:Zp:=by
 clear bl bn;go_wp2_with fail;go_roundw;exact⟨j+1,by omega,by go_num,bO,H⟩;simp[intOf];omega):Zp:=h
theorem xgh(h:Zp:=by
 intro b hb aO;simp[Value.ownBlock]at hb;subst hb;rcases ar with c|c
 ·exact f.ne g c aO
 have:=(eH f.pv aO).2;omega):Zp:=h
theorem xgi(h:Zp:=by
 intro b hb aO;simp[Value.ownBlock]at aO;subst aO;rcases ar with c|c
 ·exact f.ne _ hb c
 have:=(eH f.pu hb).2;omega):Zp:=h
theorem xgj(h:Zp:=by
 clear o b9 q;go_wp2_with fail;go_roundw;exact⟨i+1,by omega,by go_num,aI⟩;simp[intOf];omega):Zp:=h
theorem xgk(h:Zp:=by
 go_wp2_with (go_at_call 101;refine yaj N.o ?_;rintro e ag ⟨rfl,bd⟩);go_ret;rw[HR.o];exact⟨rfl,bd⟩):Zp:=h
theorem xgl(h:Zp:=by
 obtain⟨S',u,bo,bw,bR,cz⟩:=aa.o v aq cap' _ ck av aG HC.o;exact⟨ak+1,S',u,by omega,by go_num,bo,bw,bR,cz⟩):Zp:=h
theorem xgm(h:Zp:=by
 go_wp2;go_roundw;exact⟨j+1,_,_,by omega,by go_num,rfl,by go_num,H,m⟩;simp[intOf];omega):Zp:=h
theorem xgn(h:Zp:=by
 go_wp2;go_roundw
 case rel=>exact⟨trivial,j,by omega,by go_num,HR⟩
 case measure=>simp[intOf];have:=be.o;omega):Zp:=h
theorem xgo(h:Zp:=by
 clear hb;go_wp2_with fail;go_roundw;exact⟨k+1,by omega,by go_num,HR⟩;simp[intOf];omega):Zp:=h
theorem xgp(h:Zp:=by
 go_wp2_with (go_at_call 124;refine yaj bZ.o ?_;rintro e bc ⟨⟨x,rfl⟩,bd⟩);go_ret;exact bd.o):Zp:=h
theorem xgq(h:Zp:=by
 go_wp2;go_roundw;exact⟨j+1,by omega,by have:=cc.o;go_num,R1⟩;simp[intOf];omega):Zp:=h
theorem xgr(h:Zp:=by
 clear an a2;exact xcg):Zp:=h
theorem xgs(h:Zp:=by
 rw[bU]at c;subst c;rcases bg with e|e
 ·exact N.new g9 (.inr e)
 exact .inr (hJ N.chg.size)):Zp:=h
theorem xgt(h:Zp:=by
 unfold vd;rw[yai,yai,List.getElem?_map];cases vs[j]?<;>rfl):Zp:=h
theorem xgu(h:Zp:=by
 have e:=G.o.trans bm.o.1.symm;subst e;exact⟨_,_,_,_,by omega,⟨bm.o.1.symm,_,bm.o.2⟩,aJ⟩):Zp:=h
theorem xgv(h:Zp:=by
 have f:=aN (j*6+0);go_wp2_with fail;go_meet;exact⟨_,_,_,_,_,_,bH.o 0 _ _ xab rfl ah.o⟩):Zp:=h
theorem xgw(h:Zp:=by
 rcases Nat.lt_or_ge g W.heap.size with c|c
 ·exact c
 rw[Array.getElem?_eq_none c]at aS;cases aS):Zp:=h
theorem xgx(h:Zp:=by
 go_wp2;go_roundw;exact⟨q+1,by omega,by go_num,R1,R2⟩;simp[intOf];omega):Zp:=h
theorem xgy(h:Zp:=by
 rintro b (h|h|h)
 ·exact f.nr b (.inl h)
 ·grind[Value.ownBlock]
 exact f.nr b (.inr (.inr h))):Zp:=h
theorem xgz(h:Zp:=by
 go_roundw;exact⟨trivial,j+1,by omega,by go_num,H⟩;simp[intOf];omega):Zp:=h
theorem xha(h:Zp:=by
 go_wp2;go_roundw;exact⟨k+1,by omega,by go_num,R1⟩;simp[intOf];omega):Zp:=h
theorem xhb(h:Zp:=by
 obtain⟨⟨a5,a7,z,G,F,N,h3⟩,a6⟩:=h;exact⟨⟨_,_,_,_,F.keep k,N.keep k,h3⟩,eO a6 k⟩):Zp:=h
theorem xhc(h:Zp:=by
 rcases bv.new b c with d|d
 ·exact bx.new b (.inl d)
 exact .inr (yao bx.chg.size d)):Zp:=h
theorem xhd(h:Zp:=by
 rw[yai,yam hi]at h;grind[List.set_getElem_self]):Zp:=h
theorem xhe(h:Zp:=by
 rw[Nat.testBit_two_pow_add_gt hi,show decide _=false from yay xaa];simp):Zp:=h
theorem xhf(h:Zp:=by
 go_wp2_with fail;refine yaj HD.o ?_;rintro e B ⟨rfl,rfl⟩;go_wp2;grind[intOf]):Zp:=h
theorem xhg(h:Zp:=by
 subst ai;obtain⟨aE,cE,aB⟩:=ao.o.form;subst aB;go_upto_region 30 with fail;exact WkM):Zp:=h
theorem xhh(h:Zp:=by
 have:=((al.nb i hi).mv ao).weak (M':=Mst P a5 a7 z G) (λb hb=>.inl hb);rw[R];exact this):Zp:=h
theorem xhi(h:Zp:=by
 rintro e ag ⟨aq,cap',rfl,own,s⟩;rw[h.g.row]at s;exact⟨_,_,rfl,h.next k own s⟩):Zp:=h
theorem xhj(h:Zp:=by
 rw[eQ _ _ _ _ _ _ (.inl ci),eQ _ _ _ _ _ _ (.inl ci),eQ _ _ _ _ _ _ (.inl ci)];exact r):Zp:=h
theorem xhk(h:Zp:=by
 go_enter func25,ntmps25;go_wp2
 all_goals
  go_ret
  exact⟨rfl,ez _ _ _ _⟩):Zp:=h
theorem xhl(h:Zp:=by
 go_wp2;go_ret;rw[o.o];exact⟨_,rfl,b9.o,bE,HR.o.drw _,aT.trans (eJ _ _ _ _)⟩):Zp:=h
theorem xhm(h:Zp:=by
 rw[List.getElem?_eq_none xaa];exact(by decide:hF.k<18446744073709551616)):Zp:=h
theorem xhn(h:Zp:=by
 simp only[List.append_nil];exact⟨_,_,_,rfl,eO h k,rfl,(StQ.refl _ _ w).keepQ k⟩):Zp:=h
theorem xho(h:Zp:=by
 have aO:((k:Int)%4==0)=false:=by rw[beq_eq_false_iff_ne];omega
 clear al F;exact DpE):Zp:=h
theorem xhp(h:Zp:=by
 rw[yai,yam h];exact List.getElem_mem _):Zp:=h
theorem xhq(h:Zp:=by
 split
 ·exact .err xab
 split
 ·exact .err xab
 exact kq _ _ _):Zp:=h
theorem xhr(h:Zp:=by
 clear al F N;exact xei):Zp:=h
theorem xhs(h:Zp:=by
 have:=a2.o;rw[yap (hN bh.o)]at this;exact this):Zp:=h
theorem xht(h:Zp:=by
 go_enter func24,ntmps24;go_wp2;go_ret;exact⟨hO HR.o,rfl⟩):Zp:=h
theorem xhu(h:Zp:=by
 have:(av.toList.take (n*1))[k]? =(xs.map (Value.int .i64))[k]?:=by rw[ba]
 grind):Zp:=h
theorem xhv(h:Zp:=by
 refine⟨k+1,by omega,by go_num,?_,?_⟩
 ·rw[bY.o]
 rw[bY.o];exact J.o):Zp:=h
theorem xhw(h:Zp:=by
 exfalso;rcases au with⟨h3,_⟩|⟨_,h3,_⟩
 ·exact h3 F.1
 have:=F.2;omega):Zp:=h
theorem xhx(h:Zp:=by
 unfold val;rw[Nat.pow_zero,Nat.mul_one,Nat.mul_assoc,Nat.pow_sub_mul_pow 2 h]):Zp:=h
theorem xhy(h:Zp:=by
 go_enter func83,ntmps83;go_wp2;go_ret;exact⟨_,rfl,bN,rfl,0,rfl⟩):Zp:=h
theorem xhz(h:Zp:=by
 rw[yai,yam O]at t;simpa using t):Zp:=h
theorem xia(h:Zp:=by
 go_enter func3,ntmps3;go_wp2;go_ret;exact⟨rfl,hI⟩):Zp:=h
theorem xib(h:Zp:=by
 refine⟨?_,?_,?_,?_,?_,?_,?_⟩;all_goals first|(go_simp;done)|(simp;done)):Zp:=h
theorem xic(h:Zp:=by
 clear bv;exact xdo):Zp:=h
theorem xid(h:Zp:=by
 refine wp_mono h ?_;intro e ag B ap;cases e<;>first|exact ap|exact ap.elim):Zp:=h
theorem xie(h:Zp:=by
 refine(aj.block b xaa xaa).trans ?_;exact f.k0.block b hb ad):Zp:=h
theorem xif(h:Zp:=by
 go_upto_region 24 with fail;clear c1;obtain⟨eY,rfl⟩:=bl.o;exact TkF):Zp:=h
theorem xig(h:Zp:=by
 rw[e];go_enter func99,ntmps99;go_wp2;go_ret;exact⟨rfl,rfl⟩):Zp:=h
theorem xih(h:Zp:=by
 go_wp2;go_ret;exact⟨_,rfl,by rw[a5,show k=10 by omega],af,_,rfl⟩):Zp:=h
theorem xii(h:Zp:=by
 rintro e B ⟨rfl,rfl⟩;go_wp2;go_ret;exact⟨_,rfl,rfl,an,0,rfl⟩):Zp:=h
theorem xij(h:Zp:=by
 have F:=f.bz;have bF:=bh.size;have bp:=aH.size;have aj:=h.size;omega):Zp:=h
theorem xik(h:Zp:=by
 go_wp2_with fail;go_meet;exact⟨_,_,r,_,_,_,rfl,rfl,rfl,cM,R2,R3⟩):Zp:=h
theorem xil(h:Zp:=by
 have aq:=hb.o;have aN:=bg.o;have be:=b2.o;constructor<;>omega):Zp:=h
theorem xim(h:Zp:=by
 go_enter func62,ntmps62;go_wp2;go_ret;exact⟨rfl,rfl⟩):Zp:=h
theorem xin(h:Zp:=by
 intro i hi c;by_cases e:i=k
 ·grind
 exact h.digit i xaa c):Zp:=h
theorem xio(h:Zp:=by
 clear aj;go_wp2;go_ret;exact⟨hO H.o,Kept.refl _ _ _⟩):Zp:=h
theorem xip(h:Zp:=by
 clear aM a5 a2 bK;go_wp2;go_ret;exact⟨hO H.o,R2.o⟩):Zp:=h
theorem xiq(h:Zp:=by
 unfold inB;rw[HL.o.1,HL.o.2,yay R,Bool.false_and]):Zp:=h
theorem xir(h:Zp:=by
 show(eW vs outs n2).getD j 0+(vs.getD j hF).len<=50000;omega):Zp:=h
theorem xis(h:Zp:=by
 rintro e B ⟨rfl,rfl⟩;go_wp2;go_ret;exact⟨rfl,ez _ _ _ _⟩):Zp:=h
theorem xit(h:Zp:=by
 rw[yau af,List.mem_append];simp_all):Zp:=h
theorem xiu(h:Zp:=by
 go_upto_region 24 with fail;obtain⟨eY,rfl⟩:=bl.o;exact TkF):Zp:=h
theorem xiv(h:Zp:=by
 go_wp2_with fail;go_meet;exact⟨_,_,r,_,_,_,rfl,rfl,cM,R2,R3⟩):Zp:=h
theorem xiw(h:Zp:=by
 have:=J.o;rw[show j=D+m by omega,<-HD.o]at this;exact this):Zp:=h
theorem xix(h:Zp:=by
 obtain⟨g,e,F,N,h3⟩:=an.o al;exact⟨g,e,F,N.keep aR,h3⟩):Zp:=h
theorem xiy(h:Zp:=by
 have:=e7.o k cB;exact⟨(fld v k).toNat,by omega,by omega⟩):Zp:=h
theorem xiz(h:Zp:=by
 rw[yam O];exact h _ (List.getElem_mem _)):Zp:=h
theorem xja(h:Zp:=by
 rcases r with⟨c,p⟩|x
 ·exact .err (h c p rfl)
 exact .ok):Zp:=h
theorem xjb(h:Zp:=by
 rcases C with C|C<;>exact⟨ax,P,gj WkS am λz X W ao=>WkE⟩):Zp:=h
theorem qaa(h:Zp:=by
 obtain⟨x,bq⟩:=GrS.start f K hP;have ap:E _:=x;have s:E (Kept P (P+1) w _):=e8 bq;have HF:E (∀(W:World) (Y:Nat) (o m p q r:Int),GrS W J P a n cap Y bs w.heap.size (.slice a1 Z c1) (.slice U vs.length c2) (.slice a3 ab c3) ins vs outs->Kept P (P+1) w W->∀az,Kept 0 0 W az->_):=λW Y o m p q r S k az aw=>S.put k aw (eK o m p q r) (Nat.zero_lt_succ _) ad;have hj:(nv bs (ni bs i):Int)%(vs.length:Int)=((nv bs (ni bs i)%vs.length:Nat):Int):=xaa;have X:nv bs (ni bs i)%vs.length<vs.length:=Nat.mod_lt _ al;generalize nv bs (ni bs i)%vs.length=j at hj X am⊢;have aD:E ((nv bs (ni bs i):Int).tmod (vs.length:Int)=j):=(Int.tmod_eq_emod_of_nonneg xaa).trans hj;have bL:¬vs=[]:=λe=>by grind
 have cA:=ib K.ys i;have b4:=ib K.ys (ni bs i);have ar:¬(nv bs i:Int)%16=0:=xaa;have G:E _:=O;have HM:E _:=am;clear f K x bq O hj am;go_enter func48,ntmps48;go_wp2_with fail;generalize (w.alloc (.cells #[.slice a1 Z c1,.slice U vs.length c2,.slice a3 ab c3] 26)).alloc fJ=W0 at ap s⊢;refine yaj ap.o.next ?_;rintro e az ⟨rfl,(au:E _),aw⟩;have aC:=au.o.bx.q1;have bX:E _:=s.o.trans aw;clear aw;go_upto_region 11 with fail;go_region_held3 (λB=>B.cell? ⟨w.heap.size,1,none⟩=some (.slice U vs.length c2)) (go_keep) (first|(go_at_call 15;refine yaj (au.o.keep (eG _)).next ?_;rintro e bS ⟨rfl,h,ak⟩;have aL:=h.bx.q1));have HK:E (Kept P (P+1) w bS):=bX.o.trans ((e8 (eG _)).trans ak);have ao:E _:=h;exact qab):Zp:=h
theorem qac(h:Zp:=by
 have cC:E (∀o,((w.alloc (e9 Q Z c1 (some ⟨aN,0,none⟩) n2 c2 ae ab c3)).alloc fJ).frozen? ⟨w.heap.size,o,none⟩=false):=λo=>by simp
 have bC:=iN (w.alloc (e9 Q Z c1 (some ⟨aN,0,none⟩) n2 c2 ae ab c3));rw[show(w.alloc _).heap.size=w.heap.size+1 by simp]at bC;have HR:E _:=bC;have fc:E _:=zM _ Q ae _ Z c1 _ c2 ab c3 s x _ (cW.keep cN yaa) cg au an b9 hops;have ff:E _:=λW k=>xM W _ _ _ _ c1 _ c2 _ c3 _ _ _ (f.keep (cN.trans k)) b8 xaa cO;have fa:E (∀W,Kept 0 0 _ W->_):=λW k=>((cW.keep (cN.trans k) yaa).at_ x an).c1;have bB:E _:=f.v.len;have et:E _:=ca;have ej:E _:=hops;have ct:E _:=b9;have cD:E _:=bV;have b2:E (SzU 2000 _ _):=⟨hJ f.v.len,mG _ (λj hj=>hJ (ca j (by have:=f.v.len;omega))),cT⟩
 have cA:(0:Int)<=x:=xaa;have b4:(x:Int)<n2:=xaa;have cI:(0:Int)<=s:=xaa;have ch:(s:Int)<n2:=xaa;have dv:((w.alloc (e9 Q Z c1 (some ⟨aN,0,none⟩) n2 c2 ae ab c3)).alloc fJ).heap.size=w.heap.size+1+1:=by simp
 clear bC cN f bV cT ca hops b9;go_enter func134,ntmps134;go_wp2_with fail;refine yaj fc.o ?_;rintro e aA ⟨A,rfl,a2,fl,aw⟩;rw[dv]at fl;obtain⟨_,bK,bu,p2⟩:=av.o.keep aw;have ey:=fa.o _ aw;generalize fq:(vs.getD x _).len=co at ey;have gd:E _:=fq;clear fq fa fc;have bl:E (BR _ A _):=a2;have bX:E _:=aw;clear a2 aw;go_wp2_with fail;clear ey;refine yaj (ff.o _ bX.o) ?_;rintro e ag ⟨R,aH,U,bf,aa,Y,rfl,cn,bT,bj,⟨aC,aL,b1⟩,ak⟩;have bA:w.heap.size+1+1<=aA.heap.size:=hJ bX.o.size
 have HL:E _:=LK.start bB.o av.o cC.o HR.o (bX.o.trans ak) bA ak.size cn bT bj aC aL b1;have dd:E (BR (fw _ _ (.slice R Z aH) (.slice U n2 bf) (.slice aa ab Y)) A _):=BR.keep (BR.keep bl.o ak yaa) (ft _ w.heap.size _ _ _) (.inr (.inl xaa));have e6:E (Farb w _ _ _ _ _ _ _ A):=⟨fl,λc=>hK ((eH bT c).1) ((BR.lt bl.o)),λc=>hK ((eH cn c).1) ((BR.lt bl.o)),λc=>hK ((eH bj c).1) ((BR.lt bl.o))⟩
 exact qad):Zp:=h
theorem qae(h:Zp:=by
 have K:E _:=fE W g off m cap ts Y.tk Y.m5 [43] [45];have ae:E _:=fE W g off m cap ts Y.tk Y.m5 [42] [47];rw[mi aM]at K ae;have c0:=Y.tk.c0 0 xaa;have c1:=Y.tk.c1 0 xaa;have c2:=Y.tk.c2 0 xaa;have cp:=Y.m5;have S:=Y.mc;have bq:E _:=Y.ws;have be:E _:=Y.gd;generalize ts.getD 0 hG=t at*;clear Y aM;obtain⟨aO,ps,bv⟩:=t;simp only at al bC;subst al;simp only[Nat.zero_mul,Nat.add_zero]at c0 c1 c2;simp only;have af:=sF bC;have bm:E _:=bC;clear bC;have ah:E (∀I,Kept 0 0 W I->Calls prog 104 #[hy P,(⟨1,1,0,0,0,oB bv⟩:Vl).agg,hA ps] I λe ab=>(∃x:Int,e=.returned (hA x))/\E (TrO W P J u1 u2 u3 u4 bs (fN st ⟨1,1,0,0,0,oB bv⟩ ps) e ab)):=λI aj=>yaj (lY (bq.o.keep aj) be.o ⟨1,1,0,0,0,oB bv⟩ ⟨Int.le_refl _,by show(1:Int)<=1000;decide⟩ (Cu bv) ps) (λe ab t=>⟨t.ret,TrO.back aj t⟩);obtain⟨r,aD⟩:∃r,r=fN st ⟨1,1,0,0,0,oB bv⟩ ps:=⟨_,rfl⟩
 rw[<-aD]at ah⊢;clear aD bq be;go_enter func101,ntmps101;go_upto_region 3 with (go_at_call 119;refine yaj K.o ?_;rintro e ag ⟨rfl,X⟩;obtain rfl:=X.symm);go_upto_region 15 with (go_at_call 119;refine yaj ae.o ?_;rintro e ag ⟨rfl,X⟩;obtain rfl:=X.symm);go_upto_region 16 with fail;exact qaf):Zp:=h
theorem qag(h:Zp:=by
 have aa:E _:=pR bE.o a9 ai
 have bI:E (r=.error (3,U)):=by
  have h:=HR.o;rw[uD ai]at h;exact(hE h).symm
 have ck:E _:=jq bE.o.c5 bE.o.c6 bE.o.fr 3 U (Mst P u1 u2 u3 u4) (.inl rfl);clear ai HR aU bE
 go_wp2_with (first
  |(go_at_call 102;refine yaj aa.o ?_;rintro e ag ⟨ak,rfl,X⟩;obtain rfl:=X.symm;have e0:(0:Int)<=ak:=by omega)
  |(go_at_call 100;refine yaj ck.o ?_;rintro e aF ⟨rfl,aB⟩))
 refine yaz (v:=.tuple #[]) (by simp[results,results76,go_sem]) rfl ?_;rw[bI.o];exact⟨rfl,aB.c5,aB.c6,(Mv.of HK.o).bad aB.chg⟩):Zp:=h
theorem qah(h:Zp:=by
 go_enter func101,ntmps101;go_upto_region 3 with (go_at_call 119;refine yaj K.o ?_;rintro e ag ⟨rfl,X⟩;obtain rfl:=X.symm);go_upto_region 15 with (go_at_call 119;refine yaj ae.o ?_;rintro e ag ⟨rfl,X⟩;obtain rfl:=X.symm);go_upto_region 16 with fail;exact qai):Zp:=h
theorem qaj(h:Zp:=by
 obtain⟨⟨aD,a5,a7,z,G,F⟩,bm,aO,b8,X,aT,ad,HM,HO⟩:=Y.op R aa m1 ae m3 ai;clear Y;unfold PtC;go_enter func140,ntmps140;go_wp2_with fail;rw[aT.o];clear aD a5 a7 z G F aT;exact qak):Zp:=h
theorem qal(h:Zp:=by
 intros;rename_i wc K;obtain⟨f,aq,cap',Z,B,HM⟩:=K;obtain⟨_,_,aZ,ax,aU,_,_,_,_⟩:=HM.o.g;go_wp2_with fail;refine(MS.lst HM.o xaa (show(f.length:Int)-1=(vs.length:Nat) by have:=Z.o.2;omega)).mono ?_;clear HM aZ ax aU;rintro e m ⟨rfl,HM⟩;exact qam):Zp:=h
theorem qan(h:Zp:=by
 obtain⟨bW,hi,b4,b3,b0⟩:=info_parts yz;have ad:=g.n;have bB:E _:=uj g.k bg;have j:E _:=zR g.len aO;have aw:=ez 0 0 W (fH v.op v.len v.a v.b v.c v.k);have bE:E _:=h.keep aw;have N:E (Mv _ W (Mst P u1 u2 u3 u4) _):=Mv.of aw;have c1:=bE.o.c1;have a6:E _:=bE.o.r2;have ca:=bE.o.fr 1;have B:=i9 W v;obtain⟨aD,a5,a7,z,G,F⟩:=B;have bX:(W.alloc (fH v.op v.len v.a v.b v.c v.k)).heap.size=W.heap.size+1:=by simp
 have HR:E (u2.ownBlock≠some P/\u2.ownBlock≠some W.heap.size):=⟨h.np.2.1,λe=>hJ ((eH h.r2 e).2)⟩
 have cX:=h.lt;have cS:J<=W.heap.size:=hJ h.sz
 have bL:E (fN st v p=if jY _=true then .error _ else .ok _):=rfl;generalize fN _ v p=r at bL⊢;obtain⟨U,q,ds⟩:=ja h.r2;clear h aw g;subst ds;generalize bC:st.vs.length=aV at*;have bm:E _:=bC;clear bC;go_enter func104,ntmps104;go_wp2_with fail;generalize bA:W.alloc _=aA at c1 a6 aD a5 a7 z G F bX ca bE N⊢;have ao:J<=aA.heap.size:=xaa;have be:P<aA.heap.size:=xaa;have i:W.heap.size<aA.heap.size:=xaa;clear bX bA;exact qao):Zp:=h
theorem qap(h:Zp:=by
 unfold pP;intros;rename_i B hP;have bL:E _:=@hP;have HD:E _:=h.D;have HSV:E _:=h.hs;have af:=h.hl;have g:=h.hc;obtain⟨_,bn,aX,bb,F,aD,al⟩:=HD.o.bx;obtain rfl:=Bool.eq_false_iff.2 λq=>absurd (B.1 q) xaa;clear hP B;conv=>arg 2;whnf
 exact qaq):Zp:=h
theorem qar(h:Zp:=by
 obtain⟨⟨aD,a5,a7,z,G,F⟩,bm,aO,b8,X,aT,ad,HM,HO⟩:=Y.op R aa m1 ae m3 ai;clear Y;exact qas):Zp:=h
theorem qat(h:Zp:=by
 obtain⟨x,bq⟩:=GrS.start f K hP;have ap:E _:=x;have s:E (Kept P (P+1) w _):=e8 bq;have HF:E (∀(W:World) (Y:Nat) (v:Vl),GrS W J P a n cap Y bs w.heap.size (.slice a1 Z c1) (.slice U vs.length c2) (.slice a3 ab c3) ins vs outs->Kept P (P+1) w W->∀az,Kept 0 0 W az->v.k<18446744073709551616->_):=λW Y v S k az aw aO=>S.put k aw v aO ad;have cA:=ib K.ys i;have b4:=ib K.ys (ni bs i);have G:E _:=O;generalize be:vs.length=n2 at ap s HF ad G⊢;clear be;clear f K x bq O;go_enter func48,ntmps48;go_wp2_with fail;generalize (w.alloc (.cells #[.slice a1 Z c1,.slice U n2 c2,.slice a3 ab c3] 26)).alloc fJ=W0 at ap s⊢;refine yaj ap.o.next ?_;rintro e az ⟨rfl,(ao:E _),aw⟩;have HK:E _:=s.o.trans aw;clear aw ap s;obtain⟨_,aY,aC,aL,_,_,_⟩:=ao.o.bx;exact qau):Zp:=h
theorem qav(h:Zp:=by
 go_enter func32,ntmps32;go_wp2_with (first|(go_at_call 159;refine(written _ (Spn.mk s.dst s.len)).mono ?_;rintro e aA ⟨rfl,aw⟩)|fail);have bh:=ez 0 0 aA (Spn.mk s.dst s.len).box;have av:E _:=km aA (Spn.mk s.dst s.len);have hP:aA.heap.size<(aA.alloc (Spn.mk s.dst s.len).box).heap.size:=by simp
 have HK:E _:=Kept.trans aw bh;have aL:E _:=aw.size;generalize aB:aA.heap.size=P at av hP aL⊢;generalize aA.alloc (Spn.mk s.dst s.len).box=ag at av hP HK bh⊢;clear aB bh aw;refine(xz ag (Spn.mk s.dst s.len) (n:Int) cf b1 xaa xaa).mono ?_;rintro e aF ⟨rfl,aR⟩;replace HK:E _:=Kept.trans HK.o aR;replace av:E _:=AtP.keep av.o hP aR yaa;replace hP:=yak hP aR.size;clear aR;exact qaw):Zp:=h
theorem qax(h:Zp:=by
 obtain⟨w,ar⟩:=be.o ax a rfl;have d5:¬((a:Int)<0):=xaa;go_upto_region 7 with (go_at_call 101;refine yaj bZ.o ?_;rintro e aF ⟨rfl,a5,a7,z,G,aK,bv⟩);have cj:E _:=av.o.keepC bv.chg HF.o;obtain⟨bJ,cv,a9,b3,b2⟩:=aK.lenc ar;have bS:=cj.o.c0;have bu:=aK.c1;rw[a9]at bu;have b7:E _:=FtI.lit aK bv a;have cd:E (fY (λs e=>eM f s u e) st (es.take 1)=some (.ok (ax,[a]))):=HO.o ax a rfl;have aW:E _:=w;have cH:E (∀i∈[a],i<ax.vs.length):=by intro i hi;simp at hi;subst hi;exact ar
 have bC:=w.g.n;clear be bZ HE HO bv aK a9 b3 w bE aZ;generalize eX ax a=l at b2;exact qay):Zp:=h
theorem qaz(h:Zp:=by
 have bd:Chg _ _ _:=⟨au.chg.os,au.chg.tape,au.chg.output,au.chg.size,λb hb ad=>au.chg.block b hb (by rintro (c|c);exact c;exact ad c)⟩
 have aJ:(Value.slice U vs.length c2).ownBlock=some aq\/az.heap.size<=aq:=by
  exact xfa
 have O:∀u∈vs++[v],u.k<18446744073709551616:=λu aB=>by
  exact xdz
 exact qba):Zp:=h
theorem qbb(h:Zp:=by
 have f:∀J,J<W.heap.size->H≠some J->R'≠some J:=λJ aT K=>by
  rcases aL.row with e|⟨r,e,aD⟩<;>grind
 have aY:∀{b:Option _}{n e:Nat}{xs:List _},W.ownsRow base 3 1 _ n xs->Apart (.slice b n e) _->(∀g,(Value.slice b n e).ownBlock=some g->H≠some g)/\(Value.slice b n e).ownBlock≠some w.heap.size/\Apart (.slice b n e) _:=λho ar=>by
  exact xef
 obtain⟨ch,bO,d6⟩:=aY h.i h.a1;obtain⟨cn,bT,bj⟩:=aY h.o h.a3;have j:H≠some (w.heap.size+1):=λc=>by have:=(eH h.g.own (h.g.row.trans c)).1;have:=h.hb;omega
 exact qbc):Zp:=h
theorem qbd(h:Zp:=by
 obtain⟨⟨a5,a7,z,G,F,N,h3⟩,a6⟩:=h;have bU:∀b,(hz g9 n9 cap9).ownBlock=some b↔g9=b:=λb=>by simp[Value.ownBlock]
 have aK:∀b,Mst P a5 a7 z G b->b<I.heap.size:=λb hb=>by
  exact xfx
 have f:¬Mst P a5 a7 z G g9:=λc=>by
  rcases bg with e|e
  ·exact h3 g9 e c
  ·have:=aK g9 c;omega
 have ao:Mv (Mst P u1 u2 u3 u4) W (λb=>Mst P a5 a7 z G b\/(hz g9 n9 cap9).ownBlock=some b) bj:=by
  exact xdm
 exact qbe):Zp:=h
theorem qbf(h:Zp:=by
 have F:=h.keep k;refine(rP _ _ _ _ _ _ _ _ _ _ _ u F.g.own F.g.sz ad).mono ?_;rintro e ag ⟨aq,cap',rfl,own,s⟩;rw[h.g.row]at s;have hb:=s.chg.block _ F.g.lt (by rintro (c|c);exact c;exact h.g.ne c);have e:∀o,_:=λo=>World.cell?_of_block (a:=⟨w.heap.size,o,none⟩) hb;have j:∀o,_:=λo=>World.frozen?_of_block (a:=⟨w.heap.size,o,none⟩) hb;have af:(vs++[u]).length=vs.length+1:=by simp
 exact qbg):Zp:=h
theorem qbh(h:Zp:=by
 have ah:E (∀I v,Kept 0 0 W I->(1<=v.len/\v.len<=1000)->v.k<18446744073709551616->Calls _ _ _ _ λe ab=>(∃x:Int,e=.returned _)/\E (TrO W P J _ _ _ _ _ (fN _ v _) e _)):=λI v aj F N=>yaj (lY (h.keep aj) an v F N S) (λe ab t=>⟨t.ret,t.back aj⟩);have br:E (∀I p,Kept 0 0 W I->_):=λI p aj=>jq (h.keep aj).c5 (h.keep aj).c6 (h.keep aj).fr 4 p (Mst P u1 u2 u3 u4) (.inl rfl);exact qbi):Zp:=h
theorem qbj(h:Zp:=by
 go_enter func55,ntmps55;go_wp2_with (first|(go_at_call 34;refine(bA.o _).mono ?_;rintro e ag ⟨rfl,rfl⟩)|fail);refine(aW.o _).mono ?_;rintro e aF ⟨rfl,aV⟩;have F:=P.o.trans aV;have aB:=aT.o.keep aV;exact qbk):Zp:=h
theorem qbl(h:Zp:=by
 have d5:¬((a:Int)<0):=xaa;go_upto_region 7 with (go_at_call 101;refine yaj bZ.o ?_;rintro e aF ⟨rfl,a5,a7,z,G,aK,bv⟩);exact qbm):Zp:=h
theorem qbn(h:Zp:=by
 have HC:∀ab,Kept 0 0 I ab->_:=λab ak=>
  al ab P J u1 u2 u3 u4 bs st aT Q cL u g o ts.length c0 ts ⟨Y.ws.keep (aj.trans ak),Y.gd,Y.nm,Y.lc.keep (aj.trans ak),Y.ln,Y.lo,c2.keep ak,Y.tg,hJ Y.m5,c3,λt ht=>Y.ti t (by simp[ht]),λt ht=>Y.tn t (by simp[ht])⟩ 2 a ar yad ay ae
 have bg:=gn f st u a Y.gd Y.nm Y.lo b5 ay ae;have v:=Y.ws.far2 aq;exact qbo):Zp:=h
theorem qbp(h:Zp:=by
 obtain⟨bu,p2,z,q⟩:=h.np;obtain⟨l,g,p,m,r,B⟩:=h.ap;have bU:∀b,(hz g9 n9 cap9).ownBlock=some b↔g9=b:=λb=>by simp[Value.ownBlock]
 exact qbq):Zp:=h
theorem qbr(h:Zp:=by
 rw[b3,Nat.mul_one,Int.toNat_natCast]at this;exact this):Zp:=h
theorem qbs(h:Zp:=by
 have bq:=ez 0 0 w (e9 R Z c1 aS n2 c2 aa ab c3);have av:E _:=fB w (.slice R Z c1) (.slice aS n2 c2) (.slice aa ab c3);have HF:E _:=f.keep bq;have HK:E _:=bq;exact qbt):Zp:=h
theorem qbu(h:Zp:=by
 go_enter func97,ntmps97;go_upto_region 3 with fail;have bm:E _:=AU w i;change Code.wp _ _ _ _ ((w.alloc (.cells #[eN _,.int _ (0:Nat),eN _] 119)).alloc (.cells #[eN _,hA _,eN _] 119));generalize (w.alloc _).alloc _=W0 at bm⊢;have c0:=(HF.o _ bm.o.k).at_ i hi;exact qbv):Zp:=h
theorem qbw(h:Zp:=by
 obtain⟨aU,f⟩:=x;obtain⟨F,N,n,h3⟩:=lj g _ _ (by simp_all) a5;have bG:=h3 _ (lZ (k:=0) (by rw[N];simp));have f1:=h3 _ (lZ (k:=1) (by rw[N];simp));exact qbx):Zp:=h
theorem qby(h:Zp:=by
 have az:E _:=bq;clear bq;go_upto_region 4 with (go_at_call 73;refine yaj aV.o ?_;rintro e ag ⟨v,rfl,aT,ak⟩);obtain⟨bM,a2,rfl,aB⟩:=TR.slice aT;exact qbz):Zp:=h
theorem qca(h:Zp:=by
 obtain⟨w,ar⟩:=be.o s a rfl;have d5:¬((a:Int)<0):=xaa;go_upto_region 7 with (go_at_call 101;refine yaj bZ.o ?_;rintro e ag ⟨rfl,a5,a7,z,G,v,aI⟩);have y:E _:=av.o.keepC aI.chg HF.o;obtain⟨bJ,cv,a9,b3,b2⟩:=v.lenc ar;have bP:=v.c1;subst a9;exact qcb):Zp:=h
theorem qcc(h:Zp:=by
 have N:E _:=bZ;have cz:E _:=bW;have be:E _:=bg;have bM:E _:=ba;obtain⟨r,aD⟩:∃r,r=Ic (ts.getD k hG) ay a0:=⟨_,rfl⟩
 rw[<-aD];have HR:E _:=aD;clear aD Y bZ bW bg ba;go_enter func101,ntmps101;have ar:¬((k:Int)<0):=xaa;exact qcd):Zp:=h
theorem qce(h:Zp:=by
 have bq:=ez 0 0 w (e9 R Z c1 aS n2 c2 aa ab c3);have aT:=fB w (.slice R Z c1) (.slice aS n2 c2) (.slice aa ab c3);have aw:=ez 0 0 (w.alloc (e9 R Z c1 aS n2 c2 aa ab c3)) tO;have av:E _:=aT.keep aw;have HF:E _:=(f.keep bq).keep aw;exact qcf):Zp:=h
theorem qcg(h:Zp:=by
 obtain⟨bu,ay⟩:=aB cn;obtain⟨p2,a0⟩:=aB bT;obtain⟨z,ch⟩:=aB bj;have cN:Kept 0 0 w ((w.alloc g).alloc fJ):=(ez 0 0 w _).trans (ez 0 0 _ _);have bX:w.heap.size<(fw aA _ _ _ _).heap.size:=yak aj.sz S.size;exact qch):Zp:=h
theorem qci(h:Zp:=by
 refine⟨o.1,o.2.imp id ?_⟩;rintro⟨g,cap,av,ae,R,aS,aa⟩;refine⟨g,_,_,ae,R,?_,aa⟩;have aJ:g<W.heap.size:=by grind
 exact qcj):Zp:=h
theorem qck(h:Zp:=by
 have n:(4:Int)=2\/(4:Int)=3\/(4:Int)=4\/(4:Int)=5\/(4:Int)=7:=xab;have J:(5:Int)=2\/(5:Int)=3\/(5:Int)=4\/(5:Int)=5\/(5:Int)=7:=xab;have bj:(3:Int)=2\/(3:Int)=3\/(3:Int)=4\/(3:Int)=5\/(3:Int)=7:=xab;exact qcl):Zp:=h
theorem qcm(h:Zp:=by
 have aI:E _:=ez 0 0 w (e9 a1 Z c1 U n2 c2 a3 ab c3);have aT:=fB w (.slice a1 Z c1) (.slice U n2 c2) (.slice a3 ab c3);exact qcn):Zp:=h
theorem qco(h:Zp:=by
 have k:∀(w:World) (a:Nat) (u:Value),Kept g (g+1) w _:=λw a u=>eR w ⟨g,a,none⟩ u yac;exact qcp):Zp:=h
theorem qcq(h:Zp:=by
 have am:=Y.tk.len;simp only[yaq,yal,List.length_nil]at am;have aM:=iS ar;have z:=iS hb;have bL:us≠[]:=λc=>by rw[c]at z;simp at z
 have R:=jw ar yad;have B:=jw hb yad;have bu:=Y.mc;exact qcr):Zp:=h
theorem qcs(h:Zp:=by
 have p:=qZ f.rd bd λb hb=>by grind
 have own:∀{u:Value}{xs:List _}{m e s:Nat},I.ownsRow C.heap.size e s u m xs->(∀b,u.ownBlock=some b->b≠Q)->_:=λo h=>f9 o aj λb hb=>by grind
 exact qct):Zp:=h
theorem qcu(h:Zp:=by
 have HC:E (∀w,Calls prog 38 #[(Spn.mk (D:Int) (L:Int)).agg,hz g aV aV] w λe B=>e=.returned (.slice (some ⟨g,D,none⟩) L (aV-D))/\Kept 0 0 w B):=λw=>o6 w g aV aV D L cf O xaa;exact qcv):Zp:=h
theorem qcw(h:Zp:=by
 rw[heap_setCell_same w g k _ _ _ h];simp[List.map_set]):Zp:=h
theorem qcx(h:Zp:=by
 have aM:=t.p;have c:∀X o,J≠X->(W.setCell ⟨J,j,_⟩ u).cell? ⟨X,o,_⟩=W.cell? _:=λX o bL=>eQ _ _ _ _ _ _ (.inl bL);obtain⟨aO,bn,aX,bb,bz,bo,bw⟩:=h.b;exact qcy):Zp:=h
theorem qcz(h:Zp:=by
 unfold iR;simp only;go_enter func124,ntmps124;go_upto_region 1 with fail;change Code.wp _ _ _ _ (W.alloc (.cells _ 119));generalize W.alloc _=az at av HK⊢;exact qda):Zp:=h
theorem qdb(h:Zp:=by
 clear HM;unfold PfK;intros;rename_i wc K;obtain⟨f,aq,cap',Z,B,HM⟩:=K;obtain⟨_,_,aZ,ax,aU,_,_,_,_⟩:=HM.o.g;go_wp2_with fail;refine(MS.lst HM.o xaa (show(f.length:Int)-1=(vs.length:Nat) by have:=Z.o.2;omega)).mono ?_;clear HM aZ ax aU;rintro e m ⟨rfl,HM⟩;go_wp2_with fail;exact qdc):Zp:=h
theorem qdd(h:Zp:=by
 intros;rename_i wc K;obtain⟨vs2,aq,cap',g,s,HM⟩:=K;obtain⟨_,_,aZ,ax,aU,_,_,_,_⟩:=HM.o.g;go_wp2_with fail;refine(MS.lst HM.o xaa (show(vs2.length:Int)-1=((vs.length:Nat)+1) by have:=Z.o.2;have:=g.o.2;omega)).mono ?_;clear HM aZ ax aU;rintro e m ⟨rfl,HM⟩;exact qde):Zp:=h
theorem qdf(h:Zp:=by
 have aP:=a7.c1;rw[show(vs.getD j hF).len=m from HM.o]at aP;rw[aD.o];clear h ak a7 aD b4 aC au bX ap s ai ar HM;first|(have u:(nv bs i:Int)%16=14:=hJ G.o)|(have u:(nv bs i:Int)%16=15:=hJ G.o)
 clear G;obtain⟨_,aY,aC,aL,_,_,_⟩:=ao.o.bx;go_wp2_with fail;refine yaj (ao.o.pick ad _) ?_;rintro e bc ⟨rfl,z,bM⟩;replace HK:E _:=HK.o.trans bM;replace ao:E _:=z;clear z bM aY aC aL aP;go_wp2_with fail;refine yaj ao.o.next ?_;rintro e aW ⟨rfl,v,bQ⟩;replace HK:E _:=HK.o.trans bQ;replace ao:E _:=v;clear v bQ;have l:=cw.o;exact qdg):Zp:=h
theorem qdh(h:Zp:=by
 subst am;obtain⟨q,ap,r,s⟩:∃q:Nat,q<5/\(c:Int)/8%5=(q:Int)/\c/8%5=q:=⟨c/8%5,by omega,by omega,rfl⟩
 rw[s,show((base+d/8%6:Nat):Int)=(base:Int)+d/8%6 by omega]at bL;have u:(q:Int)<5:=xaa;have b1:(base:Int)<=100:=xaa;have l:(d:Int)<256:=xaa;have R:(c:Int)<256:=xaa;have cU:=P8 W 3 ap;generalize ([2,3,4,5,7]:List Int).getD q 0=o at bL cU;have p:=HD.o.keep (ez 0 0 W (.cells #[hA 2,hA 3,hA 4,hA 5,hA 7] 3));clear HD s h;have HD:E _:=p;clear p;have cf:¬(c:Int)%8=0:=xaa;have Z:¬(c:Int)%8=1:=xaa;have n2:¬(c:Int)%8=2:=xaa;have y:(c:Int)%8<6:=xaa;exact qdi):Zp:=h
theorem qdj(h:Zp:=by
 have ca:∀j,j<n2->_:=λj hj=>fU (List.all_eq_true.1 bV j (List.mem_range.2 hj));have hops:∀j,j<n2->∀k,k<cnt _->_:=λj hj=>mn (List.all_eq_true.1 bV j (List.mem_range.2 hj));have b9:∀j,j<n2->_:=λj hj=>mY (List.all_eq_true.1 bV j (List.mem_range.2 hj));have cN:Kept 0 0 w ((w.alloc (e9 Q Z c1 (some ⟨aN,0,none⟩) n2 c2 ae ab c3)).alloc fJ):=(ez 0 0 w _).trans (ez 0 0 _ _);have av:E _:=(fB w (.slice Q Z c1) (hz aN n2 c2) (.slice ae ab c3)).keep (ez 0 0 _ fJ);exact qac):Zp:=h
theorem qdk(h:Zp:=by
 change Code.wp _ _ _ _ (W.alloc (.cells #[eN [110,97,109,101],hA ps,eN bv] 119));have av:E _:=gW W [110,97,109,101] ps bv;have HK:E _:=ez 0 0 W (.cells #[eN [110,97,109,101],hA ps,eN bv] 119);generalize W.alloc (.cells #[eN [110,97,109,101],hA ps,eN bv] 119)=az at av HK⊢;have b2:E _:=HK.o.size;generalize bq:W.heap.size=aJ at av⊢;have ar:E _:=bq;clear bq;obtain⟨bE,R,aS⟩:az.cell? ⟨aJ,0,none⟩=some (eN [110,97,109,101])/\az.cell? ⟨aJ,1,none⟩=some (hA ps)/\az.cell? ⟨aJ,2,none⟩=some (eN bv):=⟨av.o.c0,av.o.c1,av.o.c2⟩
 exact qdl):Zp:=h
theorem qdm(h:Zp:=by
 go_upto_region 45 with (go_at_call 120;refine yaj ad.o ?_;rintro e bc ⟨c9,d3,rfl,aP,y2,y3,y4,a6,bm,cw⟩);obtain⟨bJ,cv,a9,b3,b2⟩:=a6.lenc al;obtain⟨au,of,ai,bX,ak,bH⟩:=cw.at_ xac;subst a9 ai;have cr:E _:=aR.o.trans bm;have bO:E _:=av.o.keepC cr.o.chg HF.o;exact qdn):Zp:=h
theorem qdo(h:Zp:=by
 have aP:=a7.c1;rw[show(vs.getD j hF).len=m from HM.o]at aP;rw[aD.o];clear h ak a7 aD b4 aC au bX ap s ai ar HM;exact qdp):Zp:=h
theorem qdq(h:Zp:=by
 generalize W.heap.size=aJ at av HF⊢;obtain⟨br,cI,ds,dT⟩:=mw _ es st H aS.o 0 (by rw[ae.o];decide) st [] rfl;obtain⟨o,cf,c0,aZ,bP⟩:=m.o.call 0 (by rw[ae.o];decide);obtain⟨dv,di⟩:=bP st br az u1 u2 u3 u4 (Gw.refl ch.o) cI (bq.o.keep HK.o) (Mv.of HK.o);rw[<-m.o.cell (Mv.of HK.o).chg 0]at aZ;have HE:E _:=ds;have HO:E _:=dT;have be:E _:=dv;have bZ:E _:=di;have bE:=av.o.c0;clear cI ds dT dv di bP;exact qdr):Zp:=h
theorem qds(h:Zp:=by
 have av:E _:=gW W bw U u;have HK:E _:=ez 0 0 W (.cells #[eN bw,hA U,eN u] 119);generalize W.alloc _=az at av HK⊢;generalize W.heap.size=aJ at av aP⊢;have bE:E _:=aU.o.ws.keep HK.o;have R:=av.o.c1;have aS:=av.o.c2;exact qdt):Zp:=h
theorem qdu(h:Zp:=by
 clear bK bu p2;obtain⟨_,bK,bu,p2⟩:=av.o.keep (bX.o.trans ak);have bG:=((bX.o.trans ak).frozen av.o.sz xaa).trans (cC.o 0);have f1:=((bX.o.trans ak).frozen av.o.sz xaa).trans (cC.o 1);have f2:=((bX.o.trans ak).frozen av.o.sz xaa).trans (cC.o 2);have bm:=BR.cell dd.o s (by rw[oA,bB.o];exact au);rw[ar]at bm;unfold fw at bm HL dd;clear cn bT bj aC aL b1 ak ff av cC HR bl bX dv;exact qdv):Zp:=h
theorem qdw(h:Zp:=by
 rw[y]at aW⊢;obtain⟨bQ,rfl,aq,bO,aS⟩:=aW.at_ xac;obtain⟨o,c0,c1,c2,c3⟩:=aS 0 xac;obtain⟨bp,au,ai,p,U⟩:=aS 1 xac;exact qdx):Zp:=h
theorem qdy(h:Zp:=by
 obtain⟨⟨aD,a5,a7,z,G,F⟩,bm,aO,b8,X,aT,ad,HM,HO⟩:=Y.op R aa m1 ae m3 ai;clear Y;unfold MvC;go_enter func141,ntmps141;go_wp2_with fail;rw[aT.o];clear aD a5 a7 z G F aT;refine fk (xl HM xaa ?_);clear HM;unfold MfK;exact qal):Zp:=h
theorem qdz(h:Zp:=by
 have aY:∀{u:Value}{e s n:Nat}{xs:List _},W.ownsRow J e s u n xs->Apart u _->Apart u _:=λho ar k O aO=>by
  exact xdr
 exact qea):Zp:=h
theorem qeb(h:Zp:=by
 have cK:¬((v:Int)<0):=xaa;go_upto_region 6 with (go_at_call 122;refine yaj Z.o ?_;rintro e ag ⟨rfl,ak⟩);have bB:E _:=HK.o.trans ak;have cy:E _:=av.o.keep ak;have aZ:=ap.o ag bB.o;have bZ:E _:=i.o ⟨v,rfl⟩ ag bB.o;clear Z av HK ak bE ax aU bx cD ap i;exact qec):Zp:=h
theorem qed(h:Zp:=by
 rw[mi aM]at K ae;have c0:=Y.tk.c0 0 xaa;have c1:=Y.tk.c1 0 xaa;have c2:=Y.tk.c2 0 xaa;have cp:=Y.m5;have S:=Y.mc;exact qee):Zp:=h
theorem qef(h:Zp:=by
 go_enter func141,ntmps141;go_wp2_with fail;rw[aT.o];clear aD a5 a7 z G F aT;exact qeg):Zp:=h
theorem qeh(h:Zp:=by
 obtain⟨bW,c9,b4,b3,b0⟩:=info_parts Cg;obtain⟨bm,bI,cC,bh,bP⟩:=info_parts mo;obtain⟨⟨cf,b1,cB⟩,_,aO,ho,cG⟩:=gU bV;have cq:vs.length=n2:=f.v.len;have cK:outs.length=ab:=f.o.len;have cH:ins.length=Z:=f.i.len;exact qei):Zp:=h
theorem qej(h:Zp:=by
 have S:=ft aA w.heap.size (.slice R Z aH) (.slice U n2 bf) (.slice aa ab Y);have aj:=bg.keep k;obtain⟨ba,aP,y2⟩:=fp _ _ _ _ _ aj.q0 aj.q1 aj.q2 (.slice R Z aH) (.slice U n2 bf) (.slice aa ab Y);exact qek):Zp:=h
theorem qel(h:Zp:=by
 have f1:=f.keep k;refine(rP _ _ _ _ _ _ _ _ _ _ _ v f1.dg.r2 f1.dg.sz xaa).mono ?_;rintro e ag ⟨aq,cap',rfl,a6,au⟩;exact qaz):Zp:=h
theorem qem(h:Zp:=by
 have HK:E _:=bq.trans aw;have HR:E _:=tU (w.alloc (e9 R Z c1 aS n2 c2 aa ab c3));have bv:(w.alloc (e9 R Z c1 aS n2 c2 aa ab c3)).heap.size=w.heap.size+1:=by simp
 rw[bv]at HR;exact qen):Zp:=h
theorem qeo(h:Zp:=by
 go_enter func133,ntmps133;go_upto_region 1 with fail;change Code.wp _ _ _ _ (W.alloc (.cells _ 119));generalize W.alloc _=az at av HK⊢;generalize W.heap.size=aJ at av⊢;exact qep):Zp:=h
theorem qeq(h:Zp:=by
 clear HR be bM cx bQ aK bv Z af ap an bh bD;obtain⟨C,o⟩:∃C,ts.getD k hG=C:=⟨_,rfl⟩
 have br:E _:=o;rw[o]at c1 aH ad bI;clear o;obtain⟨aR,s,aX⟩:=C;exact qer):Zp:=h
theorem qes(h:Zp:=by
 have a0:=ez 0 0 w (e9 none 0 0 none 0 0 none 0 0);have aV:E _:=pS (f.keep a0) xaa u;have HL:E ((jk t).length<=4000):=by show _<=_;have:=qj t;have:=f.len;omega
 exact qet):Zp:=h
theorem qeu(h:Zp:=by
 obtain⟨j,rfl⟩:∃j:Nat,A=j:=⟨A.toNat,by omega⟩
 rw[show fR (j:Int) Z=true from decide_eq_true a2,Bool.true_and,Int.toNat_natCast];have hj:j<Z:=xaa;exact qev):Zp:=h
theorem qew(h:Zp:=by
 have l:(1:Int)+(nv bs (ni bs (ni bs (ni bs i))):Int)%4=((1+nv bs (ni bs (ni bs (ni bs i)))%4:Nat):Int):=xaa;have aT:=ib K.ys (ni bs (ni bs (ni bs i)));exact qex):Zp:=h
theorem qey(h:Zp:=by
 obtain⟨a4,cI,aC⟩:=jr bE.o.r4;subst aC;go_upto_region 2 with (go_at_call 102;refine yaj aa.o ?_;rintro e ag ⟨i,rfl,aX,X⟩;obtain rfl:=X.symm);exact qez):Zp:=h
theorem qfa(h:Zp:=by
 have bS:=y.o.c0;have aH:=y.o.c1;have bC:=w.g.n;generalize eX s a=l at b2 ah;generalize s.vs.length=aV at*;clear v aI bZ av HR be w bE aZ;exact qfb):Zp:=h
theorem qfc(h:Zp:=by
 have HM:E _:=aU;clear aU HL;go_upto_region 7 with (go_at_call 74;refine yaj J.o ?_;rintro e aF ⟨rfl,aR⟩);have aK:E _:=bB.o.trans aR;exact qfd):Zp:=h
theorem qfe(h:Zp:=by
 have df:E (∀I ab,Kept 0 0 bc I->Chg (Mst P aP (hz bJ bx.vs.length cv) y3 y4) I ab->ab.cell? ⟨aJ,1,none⟩=some (hA S)/\ab.cell? ⟨au,of,none⟩=some (hA (j:Nat))/\ab.cell? ⟨au,of+1,none⟩=some (hA (n:Nat))):=λI ab aj bV=>by
  exact xdp
 have bC:=ao.g.n;have d0:=ao.g.lenB al;have c6:E _:=ao.g;have dg:E _:=a6;have d1:E _:=cq;exact qff):Zp:=h
theorem qfg(h:Zp:=by
 refine fk (yh HM xaa ?_);clear HM;unfold PfK;intros;rename_i wc K;obtain⟨vs2,aq,cap',g,s,HM⟩:=K;obtain⟨_,_,aZ,ax,aU,_,_,_,_⟩:=HM.o.g;go_wp2_with fail;refine(MS.lst HM.o xaa (show(vs2.length:Int)-1=((vs.length:Nat)+1) by have:=Z.o.2;have:=g.o.2;omega)).mono ?_;clear HM aZ ax aU;rintro e m ⟨rfl,HM⟩;go_wp2_with fail;exact qfh):Zp:=h
theorem qfi(h:Zp:=by
 have bu:=Y.mc;have cp:=Y.m5;have a9:bs.length<=100000:=by rw[Y.ws.nl];have:=Y.gd.m;omega
 have c0:=Y.tk.c0 0 xaa;have cf:=Y.tk.c0 1 xaa;have Z:=Y.tk.c1 1 xaa;have n2:=Y.tk.c2 1 xaa;exact qfj):Zp:=h
theorem qfk(h:Zp:=by
 have aa:E _:=pQ bE.o a9 ai;have HFn:E _:=ai;clear ai;go_upto_region 23 with (go_at_call 102;refine yaj aa.o ?_;rintro e ag ⟨rfl,X⟩;obtain rfl:=X.symm);clear aa;exact qfl):Zp:=h
theorem qfm(h:Zp:=by
 have aH:=ck.o.c1;clear aL bL bh HR cu aI v O aS m ch;obtain⟨q,ap⟩:∃q,q=jJ s xs S:=⟨_,rfl⟩
 have bY:E _:=ap;rw[<-ap]at ad ct;clear ap;rw[ay.o]at ad⊢;exact qfn):Zp:=h
theorem qfo(h:Zp:=by
 have am:=Y.tk.len;simp only[yaq,yal,List.length_nil]at am;have aM:=iS ar;have R:=jw ar yad;have bu:=Y.mc;have b5:=je ar (λt ht=>Y.ti t (by simp[ht])) a xac;exact qfp):Zp:=h
theorem qfq(h:Zp:=by
 obtain⟨aO,ps,bv⟩:=t;simp only at al;subst al;have a5:((m:Int)==1)=false:=yax xaa;simp only[Nat.zero_mul,Nat.add_zero]at c0 c1 c2;exact qah):Zp:=h
theorem qfr(h:Zp:=by
 have cw:E (∀(X bS a9:Value) (o:Nat),(((wr.setCell _ X).setCell _ bS).setCell _ a9).drew.cell? _=wr.cell? ⟨_,o,_⟩):=λX bS a9 o=>jD _ _ _ _ X bS a9 gr;have ea:E _:=HL.o.a4;have R1:E _:=HL.o.fin (eG _);exact qfs):Zp:=h
theorem qft(h:Zp:=by
 rw[<-aD];have HR:E _:=aD;clear aD h an bl K cx;unfold iR;simp only;go_enter func125,ntmps125;go_upto_region 2 with fail;exact qfu):Zp:=h
theorem qfv(h:Zp:=by
 have K:E _:=fE W g off m cap ts Y.tk Y.m5 [43] [45];have ae:E _:=fE W g off m cap ts Y.tk Y.m5 [42] [47];exact qed):Zp:=h
theorem qfw(h:Zp:=by
 have cT:=oP (xs:=outs) (q:=k) (hL cA.o.2.1 bK);have dc:=HO.o _ cT;obtain⟨m,em,am⟩:∃m:Nat,outs.getD k 0=m/\m<i:=⟨(outs.getD k 0).toNat,by omega,by omega⟩
 exact qfx):Zp:=h
theorem qfy(h:Zp:=by
 have bE:=av.o.c0;go_upto_region 3 with (go_at_call 103;refine yaj (cc.o _) ?_;rintro e ag ⟨rfl,ak⟩);have bB:E _:=HK.o.trans ak;have y:E _:=av.o.keep ak;exact qfz):Zp:=h
theorem qga(h:Zp:=by
 have cC:¬((y:Int)<0):=xaa;go_upto_region 11 with (go_at_call 101;refine yaj cx.o ?_;rintro e aF ⟨rfl,aQ,a8,bi,bk,aK,bv⟩);have Z:=bQ.o.trans bv;exact qgb):Zp:=h
theorem qgc(h:Zp:=by
 obtain⟨w,ar⟩:=be.o ⟨v,rfl⟩ s a rfl;have an:=yak (b0.o v rfl) w.n;exact qbl):Zp:=h
theorem qgd(h:Zp:=by
 have aU:E _:=Y;have aP:E _:=Y.ws.far;obtain⟨bw,U,u⟩:=n;simp only[Nat.zero_mul,Nat.add_zero,Nat.one_mul]at c0 cf Z n2;simp only[iI]at h;have HR:E _:=h;exact qge):Zp:=h
theorem qgf(h:Zp:=by
 clear b2 bH a6 bm cw aO ad aR aB bX ak b3 cq aH ck cr ay ct av bY bI;go_quiet (fail)
 have Y:E _:=eJ 0 0 bc nq;have cF:E _:=bA.o _ Y.o;exact qgg):Zp:=h
theorem qgh(h:Zp:=by
 have cu:E (H=.ok (s,xs)):=by
  exact xel
 obtain⟨cB,d4,aQ,a8,bi,bk,rfl,aL,(aR:E _),bL⟩:=bh.o.xs;have ad:E _:=zS aL v.o.g cB xs.length d4 xs bL (by rw[ay.o];decide) O.o S;have ck:E _:=av.o.keepC aR.o.chg HF.o;exact qgi):Zp:=h
theorem qgj(h:Zp:=by
 have bq:=bz.o.lt;have bb:=bz.o.c2;have a6:E _:=a2.r4;have bJ:E _:=a2;have cO:bs.length<=5000:=hL a2.nl b2.m
 clear a2;subst e4;generalize bC:bs.length=aV at*;have bm:E _:=bC;clear bC;exact qgk):Zp:=h
theorem qgl(h:Zp:=by
 obtain⟨bD,cc⟩:=cM.o _ _ rfl;have ed:¬((U:Int)<0):=xaa;have cC:E _:=cQ.o _ _ rfl;have cN:E _:=v.o.trans bD
 have c7:E (∀i∈xs++[U],i<aU.vs.length):=by
  exact xcp
 exact qgm):Zp:=h
theorem qgn(h:Zp:=by
 have d0:=tD (by rw[ad];decide) (by rw[ad];decide) (by rw[ad];decide);have y:=A2 R ah d0
 have aB:ts++c::[n]=((k::l::(ts++[c,n,q])).drop 2).take (m-1-2):=by
  exact xep
 exact qgo):Zp:=h
theorem qgp(h:Zp:=by
 have HF:E _:=h.far;have bq:E _:=h;have ch:E _:=an;have m:E _:=bl;have aS:E _:=K;have ae:E _:=cx;exact qgq):Zp:=h
theorem qgr(h:Zp:=by
 go_enter func76,ntmps76;go_upto_region 20 with fail;go_upto_region 21 with fail;change Code.wp _ _ _ _ (W.alloc (.cells #[eN _,.int _ U,eN _] 119));exact qds):Zp:=h
theorem qgs(h:Zp:=by
 have cq:¬Mst P aP (hz bJ bx.vs.length cv) y3 y4 aJ:=λc=>(cr.o.new aJ c).elim HF.o (λc=>hJ av.o.lt);have cy:E _:=(Mv.of (M:=Mst P u1 u2 u3 u4) HK.o).trans cr.o;exact qgt):Zp:=h
theorem qgu(h:Zp:=by
 have ct:E _:=λbx aa (aA:jJ s xs S=.ok (bx,aa))=>lj v.o.g xs S O.o aA;exact qfm):Zp:=h
