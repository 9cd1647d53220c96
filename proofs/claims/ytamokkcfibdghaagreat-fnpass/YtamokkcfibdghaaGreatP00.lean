import Derived.BigQuiet
import Derived.Deep.AppendLies
import Derived.Deep.AppendSrc
import Derived.Deep.DeepCutAuto
import Derived.Deep.DrawnRows
import Derived.Deep.Draws
import Derived.Deep.LoopGhost
import Derived.Deep.Quiet
import Derived.Deep.QuietTactic
import Derived.Deep.RegionHeld3
import Derived.Deep.RegionLaw
import Derived.Deep.RegionWith
import Derived.Deep.Slices
import Derived.DeepKeys4
import Derived.Laws.BytesArg
import Derived.Laws.Cover3
import Derived.Laws.FloatArith
import Derived.Laws.OwnMore
import Derived.Lib.ConvBytes
import Derived.LoopIn
import Derived.LoopNIn
import Derived.Maps.OwnOps
import Derived.Maps.OwnSet
import Derived.OpenShut
import Derived.OwnWalkIn
import Derived.ProofKit
import Derived.RangeFuncBound
import Derived.RangeFuncCalls
import Derived.RangeFuncLeaves
import Derived.RangeFuncNested
import Derived.Shelf.Abstract
import Derived.Shelf.RegionOpen
import Derived.StillTail
import Derived.TacticsInMore
import Derived.WalkKit
import Derived.WalkLawsBesides
import Derived.WalkSpells
namespace Go.Proofs.Z
variable {Zp:Prop}
def V(p:Prop):Prop:=p
theorem V.o{p}(h:V p):p:=h
theorem hX{p q:Prop}(h:q)(g:q->p:=by intro x;rw[x];rfl):p:=g h
theorem hW{p q:Prop}(h:q)(g:q->p:=by intro x;rw[x];omega):p:=g h
theorem hV{p q r:Prop}(h:q)(k:r)(g:q->r->p:=by intro x y;rw[<-x];exact y):p:=g h k
theorem hU{p q r:Prop}(h:q)(k:r)(g:q->r->p:=by intro x y;rw[x];exact y):p:=g h k
theorem hS{p q r:Prop}(h:q)(k:r)(g:q->r->p:=by intro _ _;omega):p:=g h k
theorem hR{p q:Prop}(h:q)(g:q->p:=by intro _;omega):p:=g h
theorem hL{α:Type _}{a b:α}(h:some a=some b):a=b:=Option.some.inj h
theorem hK{c:Prop}{d:Decidable c}(h:c){α:Sort _}{t e:α}:ite c t e=t:=if_pos h
theorem hJ{c:Prop}{d:Decidable c}(h:¬c){α:Sort _}{t e:α}:ite c t e=e:=if_neg h
open Go.RowKit
theorem yaa{A B}{n:Nat}:A∨B∨n≤n:=.inr (.inr (Nat.le_refl _))
theorem yab{A}{n:Nat}:A∨n≤n:=.inr (Nat.le_refl _)
theorem yac{A n}:(n≤n∧n<n+1)∨A:=.inl ⟨Nat.le_refl _,Nat.lt_succ_self _⟩
theorem yad{n:Nat}:n≤n:=Nat.le_refl _
theorem yae{n}:n<n+1:=Nat.lt_succ_self _
theorem yaf(h:Zp:=by simp;omega):Zp:=h
theorem yag(h:Zp:=by show(0:Nat)<18446744073709551616;decide):Zp:=h
theorem yah.{u}{α:Type u}{l:List α}{i a}:l.getD i a=l[i]?.getD a:=List.getD_eq_getElem?_getD
theorem yai{P f args w R R'}(h:Calls P f args w R)(g:∀e w',R e w'→R' e w'):Calls P f args w R':=h.mono g
theorem yaj{n m k:Nat}(h:n<m)(g:m≤k):n<k:=Nat.lt_of_lt_of_le h g
theorem yak.{u}{α:Type u}{s t:List α}:(s++t).length=s.length+t.length:=List.length_append
theorem yal.{u}{α:Type u}{l:List α}{i}(h:i<l.length):l[i]?=some l[i]:=List.getElem?_eq_getElem h
theorem yam.{u}{α:Type u}[BEq α][LawfulBEq α]{a b:α}(h:a≠b):(a==b)=false:=beq_eq_false_iff_ne.2 h
theorem yan{n m k:Nat}(h:n≤m)(g:m≤k):n≤k:=Nat.le_trans h g
theorem yao.{u}{α:Type u}{i}{l:List α}(h:l.length≤i):l.take i=l:=List.take_of_length_le h
theorem yap.{u}{α:Type u}{a}{s:List α}:(a::s).length=s.length+1:=rfl
theorem yaq{a b:ByteArray}:(a++b).size=a.size+b.size:=ByteArray.size_append
theorem yar.{u}{α:Type u}{l r:List α}{i}(h:l.length≤i):(l++r)[i]?=r[i-l.length]?:=List.getElem?_append_right h
theorem yas.{u}{α:Type u}{l r:List α}{i}(h:i<l.length):(l++r)[i]?=l[i]?:=List.getElem?_append_left h
theorem yat.{u}{α:Type u}{i}{l:List α}(h):l.take (i+1)=l.take i++[l[i]]:=List.take_succ_eq_append_getElem h
theorem yau(w:World)(c t i):(w.alloc (.cells c t)).cell? ⟨w.heap.size,i,none⟩=c[i]?:=World.cell?_alloc_new w c t i
theorem yav(w:World)(b e s):w.ownsRow b e s (.slice none 0 0) 0 []:=World.ownsRow_nil w b e s
theorem yaw.{u}{α:Type u}[BEq α][LawfulBEq α]{a b:α}(h:a≠b):(a==b)=false:=beq_false_of_ne h
theorem yax{p}[Decidable p](h:¬p):decide p=false:=decide_eq_false h
theorem yay{P fn R a w v}(h:Sem.run P (results fn a.tmps) w=.ok v w)(g:a.defers=[])(k:R (.returned v) w):bodyPost P fn R .ret a w:=bodyPost_ret h g k
open Go.RowKit
abbrev hG(b:Nat):Value:=.pointer (some ⟨b,0,none⟩)
abbrev hH(b n c:Nat):Value:=.slice (some ⟨b,0,none⟩) n c
abbrev hI(x:Int):Value:=.int .i64 x
theorem xaa(h:Zp:=by omega):Zp:=h
theorem xab(h:Zp:=by decide):Zp:=h
theorem xac(h:Zp:=by simp):Zp:=h
theorem xad(h:Zp:=by
 obtain⟨⟨cf,l,co⟩,_,aL,av,_⟩:=gz P;have cl:vs.length=U:=hP.v.len;have cF:outs.length=Z:=hP.o.len;have b8:U<=2000:=xaa;have cq:Z<=50:=xaa;have HE:V (∀i,i<=U->EqI ins vs i (fh p vs i)):=λi hi=>lz ins vs p i (λj hj=>aL j xaa);have bT:V (∀j,j<U->okV ins vs j=true):=λj hj=>aL j xaa;have cz:V (∀o∈outs,0<=o/\o<U):=λo h=>hR (av o h)
 have HL:V (vs.length=U/\outs.length=Z):=⟨cl,cF⟩
 have H:=ez 0 0 w (eY N Y c1 aA U c2 ab Z c3);have aS:=fE w (.slice N Y c1) (.slice aA U c2) (.slice ab Z c3);have bp:(w.alloc (eY N Y c1 aA U c2 ab Z c3)).heap.size=w.heap.size+1:=by simp
 have an:=ez 0 0 (w.alloc (eY N Y c1 aA U c2 ab Z c3)) fp;have C:=fY (w.alloc (eY N Y c1 aA U c2 ab Z c3));have bO:((w.alloc (eY N Y c1 aA U c2 ab Z c3)).alloc fp).heap.size=w.heap.size+1+1:=by simp
 have az:=pJ U ((w.alloc (eY N Y c1 aA U c2 ab Z c3)).alloc fp) xaa;have bi:=IR.made ((w.alloc (eY N Y c1 aA U c2 ab Z c3)).alloc fp) U;have ao:=ez 0 0 ((w.alloc (eY N Y c1 aA U c2 ab Z c3)).alloc fp) (.cells (madeCells #[hI 0] U) 3);rw[bO]at az bi;rw[bp]at C;have aI:V _:=(aS.keep an).keep ao;have HR:V _:=C.keep ao;have aW:V _:=hP.keep ((H.trans an).trans ao);have HK:V _:=(H.trans an).trans ao;have bP:V _:=bi;have a5:V (br<w.heap.size/\ag<w.heap.size/\aD<w.heap.size/\br≠ag/\br≠aD/\ag≠aD):=⟨hP.i.lt,hP.v.lt,hP.o.lt,hP.d12,hP.d13,hP.d23⟩
 have aw:V _:=aT;have bX:V _:=bB;have bl:V _:=ap;have bw:V _:=bB 0 _ _ aj ((H.trans an).trans ao).chg;have aZ:V (w.heap.size+3<=(((w.alloc (eY N Y c1 aA U c2 ab Z c3)).alloc fp).alloc (.cells (madeCells #[hI 0] U) 3)).heap.size):=by show _<=_;simp
 have H2:V _:=R;have H3:V _:=h3;clear R h3 hP P cf l co aL av cl cF aT bB ap aj bi C bp bO H an ao;obtain⟨_,s0,ax,aN⟩:=aS;obtain⟨_,ba,aO,aR⟩:=aI.o;have b0:=(aI.o).q1;go_enter func104,ntmps104;go_wp2_with fail;clear ba aO aR s0 ax aN az b0;generalize ((w.alloc (eY N Y c1 aA U c2 ab Z c3)).alloc fp).alloc (.cells (madeCells #[hI 0] U) 3)=aB at aI HR aW HK bP bw aZ⊢;go_loopw [15] (λx W=>∃i:Nat,i<=U/\x=hI i/\V (VA W ag U ((fh p vs i).1++vs.drop i))/\V (IR W (w.heap.size+1+1) ((fh p vs i).2++List.replicate (U-i) 0))/\V (z i W)/\V (Chg (λb=>b=ag\/b=w.heap.size+1+1\/S b) aB W)) (λx _=>U-(intOf x).toNat)
 case atStart=>exact⟨0,Nat.zero_le _,rfl,by show VA _ _ _ _;simpa[fh] using aW.o.v,by show IR _ _ _;rw[Nat.sub_zero];exact bP.o,bw,Chg.refl _ _⟩
 case round=>
  exact xae):Zp:=h
theorem xae(h:Zp:=by
 obtain⟨i,hi,rfl,a7,G,bF,aH⟩:=hrel;clear bw bP;by_cases aF:i<U
 ·exact xaf
 exact xaj):Zp:=h
theorem xaf(h:Zp:=by
 obtain rfl:=H2.o xaa;have f:=HE.o i xaa;have E1:=HE.o (i+1) aF;have cx:aB.heap.size<=wr.heap.size:=aH.o.size;have b4:w.heap.size+3<=aB.heap.size:=aZ.o;have bg:=a7.o.at_ i aF;have bR:((fh p vs i).1++vs.drop i).getD i hM=vs.getD i hM:=xM f.l1;rw[bR]at bg;have ct:V _:=bg;have bV:=jl (bT.o i aF);have b5:ag≠w.heap.size:=hR a5.o
 have O:ag≠wr.heap.size:=hR a5.o
 have bf:V _:=G0.keepC aI.o aH.o (by rintro (c|c|c)<;>first|omega|(have:=(aw.o _ c).1;omega))
 have aV:V (∀W,Kept 0 0 wr W->Calls prog 102 #[(vs.getD i hM).agg,hH (w.heap.size+1+1) U U] W λe J=>e=.returned (rnm (fh p vs i).2 (vs.getD i hM)).agg/\Kept 0 0 W J):=λW Q=>by
  exact xdc
 have aK:V (∀W,VA W ag U ((fh p vs i).1++vs.drop i)->VA (q8 W ag (i*6) (rnm (fh p vs i).2 (vs.getD i hM))) ag U ((fh p vs (i+1)).1++vs.drop (i+1))):=λW h=>by
  exact xfm
 have ad:∃r:Nat,gi p (fh p vs i).1 (rnm (fh p vs i).2 (vs.getD i hM)) i=(r:Int)/\r<=i/\(fh p vs (i+1)).2.getD r 0=(r:Int):=by
  exact xca
 obtain⟨r,ay,bZ,bu⟩:=ad;have aP:V _:=Be (bl.o i) aF ay;have t:V ((fh p vs (i+1)).2=(fh p vs i).2++[(r:Int)]/\(fh p vs i).2.length=i):=⟨by rw[<-ay];rfl,f.l2⟩
 have bM:V (r<i->(fh p vs i).2.getD r 0=(r:Int)):=λh=>by
  exact xhl
 clear f E1 bR bV ay bu;generalize vs.getD i hM=v at bg ct aV aK aP;generalize bK:rnm (fh p vs i).2 v=nv at aV aK;clear bK;obtain⟨bh,aU,aY,bW,b9,cj⟩:=bg;obtain⟨_,bk,a8,p2⟩:=bf.o;go_wp2_with fail;clear bh aU aY bW b9 cj bk a8 p2;have bH:=ez 0 0 wr (eK v.op v.len v.a v.b v.c v.k);have q:V _:=bH;have bv:V (At (wr.alloc (eK v.op v.len v.a v.b v.c v.k)) wr.heap.size 0 v):=jF wr v;have n:V _:=bf.o.keep bH;have bd:V _:=a7.o.keep bH yaa;have bc:V (wr.heap.size<(wr.alloc (eK v.op v.len v.a v.b v.c v.k)).heap.size):=by show _<_;simp
 obtain⟨_,bk,a8,p2⟩:=n.o;obtain⟨bL,bI,bJ,cb,ci,bx⟩:=bv.o;simp only[Nat.zero_add]at bI bJ cb ci bx;clear bH;generalize wr.alloc (eK v.op v.len v.a v.b v.c v.k)=af at q bv n bd bc bk a8 p2 bL bI bJ cb ci bx⊢
 go_region_held3 (λW:World=>W.cell? ⟨w.heap.size,1,none⟩=some (hH ag U c2)/\W.cell? ⟨wr.heap.size,0,none⟩=some (hI v.op)/\W.cell? ⟨wr.heap.size,1,none⟩=some (hI v.len)/\W.cell? ⟨wr.heap.size,2,none⟩=some (hI v.a)/\W.cell? ⟨wr.heap.size,3,none⟩=some (hI v.b)/\W.cell? ⟨wr.heap.size,4,none⟩=some (hI v.c)/\W.cell? ⟨wr.heap.size,5,none⟩=some (.float .f64 v.k)) (first|go_keep|(exact⟨(fX aX ag (i*6) _ _ nv (.inl b5)).trans aQ,(fX aX ag (i*6) _ _ nv (.inl O)).trans s0,(fX aX ag (i*6) _ _ nv (.inl O)).trans ax,(fX aX ag (i*6) _ _ nv (.inl O)).trans aN,(fX aX ag (i*6) _ _ nv (.inl O)).trans bC,(fX aX ag (i*6) _ _ nv (.inl O)).trans cp,(fX aX ag (i*6) _ _ nv (.inl O)).trans au⟩))
  ((go_at_call 102;refine yai (aV.o _ (q.o.trans (eM 0 0 af 1))) ?_;rintro e aX ⟨rfl,aM⟩;have F:=Kept.trans (eM 0 0 af 1) aM;obtain⟨_,bj,aQ,a6⟩:=G0.keep n.o F;obtain⟨s0,ax,aN,bC,cp,au⟩:=At.keep bv.o bc.o F yaa;simp only[Nat.zero_add]at ax aN bC cp au;obtain⟨a9,am,al,ar,X,u5⟩:=At.keep ct.o a7.o.lt (q.o.trans F) yaa;have b7:=(VA.keep bd.o F yaa).free))
 have ak:=q.o.trans F;have K:Kept ag (ag+1) aX ((((((aX.setCell ⟨ag,i*6,none⟩ (hI nv.op)).setCell ⟨ag,i*6+1,none⟩ (hI nv.len)).setCell ⟨ag,i*6+2,none⟩ (hI nv.a)).setCell ⟨ag,i*6+3,none⟩ (hI nv.b)).setCell ⟨ag,i*6+4,none⟩ (hI nv.c)).setCell ⟨ag,i*6+5,none⟩ (.float .f64 nv.k)):=mM aX ag (i*6) nv;have bE:V (VA ((((((aX.setCell ⟨ag,i*6,none⟩ (hI nv.op)).setCell ⟨ag,i*6+1,none⟩ (hI nv.len)).setCell ⟨ag,i*6+2,none⟩ (hI nv.a)).setCell ⟨ag,i*6+3,none⟩ (hI nv.b)).setCell ⟨ag,i*6+4,none⟩ (hI nv.c)).setCell ⟨ag,i*6+5,none⟩ (.float .f64 nv.k)) ag U ((fh p vs (i+1)).1++vs.drop (i+1))):=aK.o aX (VA.keep bd.o F yaa);have aG:V (IR ((((((aX.setCell ⟨ag,i*6,none⟩ (hI nv.op)).setCell ⟨ag,i*6+1,none⟩ (hI nv.len)).setCell ⟨ag,i*6+2,none⟩ (hI nv.a)).setCell ⟨ag,i*6+3,none⟩ (hI nv.b)).setCell ⟨ag,i*6+4,none⟩ (hI nv.c)).setCell ⟨ag,i*6+5,none⟩ (.float .f64 nv.k)) (w.heap.size+1+1) ((fh p vs i).2++List.replicate (U-i) 0)):=(IR.keep G.o ak yaa).keep K (hR a5.o);have b1:V (z i ((((((aX.setCell ⟨ag,i*6,none⟩ (hI nv.op)).setCell ⟨ag,i*6+1,none⟩ (hI nv.len)).setCell ⟨ag,i*6+2,none⟩ (hI nv.a)).setCell ⟨ag,i*6+3,none⟩ (hI nv.b)).setCell ⟨ag,i*6+4,none⟩ (hI nv.c)).setCell ⟨ag,i*6+5,none⟩ (.float .f64 nv.k))):=bX.o i _ _ bF.o (Chg.trans ak.chg (K.chg1 (.inl rfl)));have aq:V (Chg (λb=>b=ag\/b=w.heap.size+1+1\/S b) aB ((((((aX.setCell ⟨ag,i*6,none⟩ (hI nv.op)).setCell ⟨ag,i*6+1,none⟩ (hI nv.len)).setCell ⟨ag,i*6+2,none⟩ (hI nv.a)).setCell ⟨ag,i*6+3,none⟩ (hI nv.b)).setCell ⟨ag,i*6+4,none⟩ (hI nv.c)).setCell ⟨ag,i*6+5,none⟩ (.float .f64 nv.k))):=Chg.trans aH.o (Chg.trans ak.chg (K.chg1 (.inl rfl)));have cu:V (G0 ((((((aX.setCell ⟨ag,i*6,none⟩ (hI nv.op)).setCell ⟨ag,i*6+1,none⟩ (hI nv.len)).setCell ⟨ag,i*6+2,none⟩ (hI nv.a)).setCell ⟨ag,i*6+3,none⟩ (hI nv.b)).setCell ⟨ag,i*6+4,none⟩ (hI nv.c)).setCell ⟨ag,i*6+5,none⟩ (.float .f64 nv.k)) w.heap.size (.slice N Y c1) (hH ag U c2) (.slice ab Z c3)):=G0.keepT (G0.keep n.o F) K (hR a5.o);generalize ((((((aX.setCell ⟨ag,i*6,none⟩ (hI nv.op)).setCell ⟨ag,i*6+1,none⟩ (hI nv.len)).setCell ⟨ag,i*6+2,none⟩ (hI nv.a)).setCell ⟨ag,i*6+3,none⟩ (hI nv.b)).setCell ⟨ag,i*6+4,none⟩ (hI nv.c)).setCell ⟨ag,i*6+5,none⟩ (.float .f64 nv.k))=cc at bE aG b1 aq cu⊢;clear ak K aM F bj aQ a6 s0 ax aN bC cp au a9 am al ar X u5 b7 bk a8 p2 bL bI bJ cb ci bx q bv n bd bc ct aV aK a7 G bF aH;obtain⟨_,bk,a8,p2⟩:=cu.o;have ck:=aG.o.cell i (by rw[yak,List.length_replicate,t.o.2];omega);have cd:=aG.o.free i;generalize ((fh p vs i).2++List.replicate (U-i) 0).getD i 0=cy at ck;go_wp2_with fail;have s:=eX (lo:=w.heap.size+1+1) (hi:=w.heap.size+1+1+1) cc ⟨w.heap.size+1+1,i,none⟩ (hI (i:Nat)) yac;have bA:V _:=IR.set aG.o i (i:Nat);have bz:V _:=bX.o i _ _ b1.o (s.chg1 (.inr xaa));have be:V _:=bE.o.keep s (hR a5.o);have aa:V _:=Chg.trans aq.o (s.chg1 (.inr (.inl rfl)));generalize cc.setCell ⟨w.heap.size+1+1,i,none⟩ (hI (i:Nat))=m at bA bz be aa⊢;clear s ck cd bk a8 p2 cu bE aG b1 aq;refine yai (aP.o m bz.o be.o) ?_;rintro e bo ⟨rfl,ah,bU⟩;have g:V _:=IR.keepC bA.o ah (λc=>hR ((aw.o _ c).1));have bb:V _:=VA.keepC be.o ah (λc=>(aw.o _ c).2.2.1 rfl);have I:V _:=Chg.trans aa.o (ah.mono λb _ c=>.inr (.inr c));have u:V _:=bU;have cB:=IR.cell g.o r (by rw[List.length_set,yak,List.length_replicate,t.o.2];omega);rw[Gy t.o.2 aF bZ bM.o]at cB;have ck:=IR.cell g.o i (by rw[List.length_set,yak,List.length_replicate,t.o.2];omega);have cd:=IR.free g.o i;generalize (((fh p vs i).2++List.replicate (U-i) 0).set i (i:Nat)).getD i 0=cy at ck;have s:=eX (lo:=w.heap.size+1+1) (hi:=w.heap.size+1+1+1) bo ⟨w.heap.size+1+1,i,none⟩ (hI (r:Nat)) yac;have R1:V _:=bb.o.keep s (hR a5.o);have R2:V _:=IR.set g.o i (r:Nat);rw[Bf t.o.2 aF,<-t.o.1]at R2;have R3:V _:=bX.o _ _ _ u.o (s.chg1 (.inr xaa));have bm:V _:=Chg.trans I.o (s.chg1 (.inr (.inl rfl)));have ce:r<U:=xaa;clear s ah bU bA bz be aa g bb I u aP t bM;go_wp2;go_roundw
 case rel=>exact⟨i+1,by omega,by go_num,R1,R2,R3,bm⟩
 case measure=>simp[intOf];omega):Zp:=h
theorem xag(h:Zp:=by
 conv=>arg 2;whnf
 go_region_with (first
  |(go_at_call 32;refine yai (bl.o _ ((eF W).trans an)) ?_;rintro e af ⟨aG,cap',rfl,⟨a9,bn⟩,⟨am,aC⟩,⟨al,a0⟩,aj,_,aH⟩;have bq:=aj 0;have br:=aj 1;have bC:=aj 2;clear aj)
  |(go_at_call 34;refine yai (gQ _ _ _ _ _ _) ?_;rintro e aB ⟨rfl,an⟩;have bk:=(MS.keep ad.o ((eF W).trans an)).g.c0;have a8:=(MS.keep ad.o ((eF W).trans an)).g.c1;have p2:=(MS.keep ad.o ((eF W).trans an)).g.c2))
 all_goals exact HK _ ⟨_,_,_,⟨rfl,by simp⟩,by simp,aH⟩):Zp:=h
theorem xah(h:Zp:=by
 have s0:=ad.o.g.c0;have ax:=ad.o.g.c1;have aN:=ad.o.g.c2;exact xag):Zp:=h
theorem xai(h:Zp:=by
 have az:=mH n w xaa;have aT:=iL w n (λk=>c (xs.getD k 0) (bd.getD k 0));generalize t:w.alloc (.cells (madeCells #[.float .f64 0] n) 49)=aB at az aT;clear t;have F:V (∀k,k<n->w.cell? ⟨bY,ai+k,none⟩=some (.float .f64 (xs.getD k 0))):=H;have Q:V (∀x∈xs,x<18446744073709551616):=bN;clear H bN;have C1:V (∀k,k<n->w.cell? ⟨br,b1+k,none⟩=some (.float .f64 (bd.getD k 0))):=an;have f:V (∀x∈bd,x<18446744073709551616):=bP;clear an bP;go_enter func75,ntmps75;go_wp2_with fail;clear az;go_loopw [8,9,15] (λ_ _ i W=>∃k:Nat,k<=n/\i=hI k/\Making w.heap.size n k (λk=>c (xs.getD k 0) (bd.getD k 0)) w W) (λ_ _ i _=>n-(intOf i).toNat)
 case atStart=>exact⟨0,Nat.zero_le _,rfl,aT⟩
 case round=>
  exact xal):Zp:=h
theorem xaj(h:Zp:=by
 obtain rfl:i=U:=xaa;have cx:aB.heap.size<=wr.heap.size:=aH.o.size;have b4:w.heap.size+3<=aB.heap.size:=aZ.o;have f:=HE.o i yad;have cA:∀b,w.heap.size<=b->¬S b:=λb hb c=>hR ((aw.o _ c).1)
 have bS:V (VA wr ag i (fh p vs i).1):=by
  exact xgg
 have g:V (IS wr (w.heap.size+1+1) (w.heap.size+1+1+1) (some ⟨w.heap.size+1+1,0,none⟩) i (fh p vs i).2):=by
  exact xgj
 have bQ:V _:=G0.keepC aI.o aH.o (by rintro (c|c|c)<;>first|(have:=a5.o;omega)|exact cA _ xaa c);have cw:V _:=RB.keepC HR.o aH.o (by rintro (c|c|c)<;>first|(have:=a5.o;omega)|exact cA _ xaa c);have b2:V _:=IBk.keepC aW.o.i aH.o (by rintro (c|c|c)<;>first|(have:=a5.o;omega)|exact(aw.o _ c).2.1 rfl);have b3:V _:=IBk.keepC aW.o.o aH.o (by rintro (c|c|c)<;>first|(have:=a5.o;omega)|exact(aw.o _ c).2.2.2 rfl);have b6:V _:=xP wr N aA ab Y c1 i c2 aD Z c3 _ _ _ i i (fh p vs i).2 outs b3.o g.o (hR a5.o) cz.o xaa H3.o;have I:V (Chg (λb=>b=ag\/b=aD\/S b) w wr):=Chg.new HK.o.chg aH.o (λb hb c=>by rcases c with c|c|c<;>first|exact .inl c|exact .inr (.inr c)|omega);clear f a7 G bF aH HR aI;obtain⟨_,bk,a8,p2⟩:=bQ.o;go_wp2_with fail;clear bk a8 p2;refine yai b6.o ?_;rintro e af ⟨rfl,(ai:V _),ao⟩;have y:V _:=G0.keepT bQ.o ao (hR a5.o);have cr:V _:=bS.o.keep ao (hR a5.o);have bY:V _:=b2.o.keep ao (hR a5.o);have bN:V (Chg (λb=>b=ag\/b=aD\/S b) w af):=Chg.trans I.o (ao.chg1 (.inr (.inl rfl)));have aJ:V _:=RB.keepC cw.o (ao.chg1 (S:=λb=>b=aD) rfl) (hR a5.o);clear b6 bQ bS g b2 b3 I;obtain⟨_,bk,a8,p2⟩:=y.o;obtain⟨_,bn,aC,a0,bG,f1,f2⟩:=aJ.o;go_wp2_with fail;obtain⟨bh,aU,aY⟩:=fj af (w.heap.size+1) _ _ _ bn aC a0 (.slice N Y c1) (.slice aA i c2) (.slice ab Z c3);have K:=ft af (w.heap.size+1) (.slice N Y c1) (.slice aA i c2) (.slice ab Z c3);refine yay (v:=eZ N Y c1 aA i c2 ab Z c3) (by simp[results,results104,go_sem,bh,aU,aY]) rfl ⟨rfl,⟨?_,?_,?_,?_,?_,?_⟩,?_⟩
 ·exact bY.o.keep K (hR a5.o)
 ·exact xgw
 ·exact xgx
 ·exact a5.o.2.2.2.1
 ·exact a5.o.2.2.2.2.1
 ·exact a5.o.2.2.2.2.2
 exact Chg.new bN.o (K.chg1 (S:=λb=>b=w.heap.size+1) rfl) (λb hb c=>by omega)):Zp:=h
theorem xak(h:Zp:=by
 unfold MfC;intros;rename_i HK;have s0:=ad.o.g.c0;have ax:=ad.o.g.c1;have aN:=ad.o.g.c2;obtain⟨_,bj,aQ,a6,bL,bI,bJ⟩:=ad.o.b;have aK:V (∀W:World,_):=λW=>je W N a2 ab m1 ae vs.length cap m3 ak xaa;rw[bF]at aK;clear bF;conv=>arg 2;whnf
 go_region_with (first
  |(go_at_call 35;refine yai (aK.o _) ?_;rintro e aX ⟨rfl,aM⟩;clear bj aQ a6 bL bI bJ;obtain⟨⟨_,_,ba,aO,aR,_,_,_,_⟩,⟨_,bj,aQ,a6,bL,bI,bJ⟩,_,_,_,_,_⟩:=MS.keep ad.o ((eF W).trans aM)))
 all_goals
  obtain⟨bh,aU,aY⟩:=fj aX (w.heap.size+1) _ _ _ bj aQ a6 (.slice N m1 ae) (.slice a2 vs.length cap) (.slice ab m3 ak)
  exact HK _ ⟨bh,aU,aY,⟨aX,(eF W).trans aM,rfl⟩⟩):Zp:=h
theorem xal(h:Zp:=by
 obtain⟨k,O,rfl,C⟩:=hrel;clear aT;by_cases aF:k<n
 ·exact xao
 obtain rfl:k=n:=xaa;go_wp2;go_ret;exact C.done):Zp:=h
theorem xam(h:Zp:=by
 have bl:V _:=kH ((aP.o _ ad.o.k).cut (i:=i) m.o.2) (cap-i);have av:=m.o.1;have bM:(0:Int)<=i:=xaa;have aZ:(i:Int)<=j:=xaa;have be:(j:Int)<=cap:=hR m.o.2
 have ae:((j:Int)-i).toNat=j-i:=xaa;have aY:=ad.o.t.c2;have bW:=ad.o.t.fr 2;have ai:=bl.o;go_upto_region 25 with fail;change Code.wp _ _ _ _ (wr.setCell _ (eN _));have l:V _:=ad.o.text (kZ t i j);clear bl ai aY bW av bM aZ be ae;generalize wr.setCell _ _=aD at l⊢;generalize au:kZ t i j=x at l;have bv:V _:=au;clear au;obtain⟨_,bn,aC,a0,aj⟩:=l.o.r;obtain⟨_,bj,aQ,a6,r⟩:=l.o.t;have bq:=aj 0;have br:=aj 1;have bC:=aj 2;have aa:V _:=l.o.fin;clear aj r l;go_wp2_with fail;change bodyPost _ _ _ _ _ (((aD.setCell _ (eN _)).setCell _ _).setCell _ (eN x));generalize ((aD.setCell _ _).setCell _ _).setCell _ _=b1 at aa⊢;obtain⟨⟨_,bG,f1,f2,_⟩,H⟩:=aa.o;refine yay (v:=.tuple #[.agg #[eN iK,hI i,eN x],hI j]) (by simp[results,results89,go_sem,bG,f1,f2]) rfl ⟨?_,H⟩;rw[bf.o.1,bf.o.2,bv.o];rfl):Zp:=h
theorem xan(h:Zp:=by
 clear ad;unfold PfK;intros;rename_i wc C;obtain⟨q,aG,cap',f,J,ad⟩:=C;go_wp2_with fail;refine fC (kN ad xaa (show(q.length:Int)-1=(vs.length:Nat) by have:=f.o.2;omega) ?_);unfold PfK;intros;rename_i aT C;obtain⟨bh,aU,aY,HR⟩:=C;go_wp2_with fail;exact yay (by simp[results,results145,go_sem,bh,aU,aY]) rfl (MS.finPR ad.o HR.o (by rw[f.o.1]<;>simp))):Zp:=h
theorem xao(h:Zp:=by
 obtain⟨ay,S⟩:=C.cell aF;have m1:=C.free;have bD:=eQ C.kept bb (F.o k aF);have bl:V _:=fx Q.o k;have d1:=eQ C.kept N (C1.o k aF);have ae:V _:=fx f.o k;have aq:V (∀z,fb z=fb (c (xs.getD k 0) (bd.getD k 0))->fb z=fb ((λk=>c (xs.getD k 0) (bd.getD k 0)) k)):=λ_ h=>h;generalize xs.getD k 0=x at bD bl aq;generalize bd.getD k 0=y at d1 ae aq;go_wp2_with fail;refine(bu _ _ _ bl.o ae.o).mono ?_;exact xaw):Zp:=h
theorem xap(h:Zp:=by
 go_enter func97,ntmps97
 go_wp2_with ((first
  |(go_at_call 98;refine(A.2 _ _ aw).mono ?_)
  |(go_at_call 13;refine(nxS aw.o).mono ?_)
  |(go_at_call 130;refine(I.2 _ _ aw).mono ?_)
  |(go_at_call 57;refine((D _).2 _ _ aw).mono ?_));rintro e aB ⟨rfl,aT⟩;clear aw;have aw:V _:=aT;clear aT)
 go_ret;exact⟨rfl,aw.o⟩):Zp:=h
theorem xaq(h:Zp:=by
 obtain⟨aZ,be,bz,bE,aC,an,bO⟩:=bG.o.ex;have b2:Mv (Mst P am al ar X) aD (Mst P aZ be bz bE) wr:=⟨an.chg,λb hb=>an.new b (.inl hb)⟩
 obtain⟨ds,cV,cX,c6⟩:=mF _ es st aa bV.o k (hU aA.o aF) s xs bT.o;obtain⟨o,Y,c1,y,c8⟩:=af.o.call k (hU aA.o aF);obtain⟨cy,cW⟩:=c8 s ds wr aZ be bz bE v.o cV aC ((Mv.of HK.o).trans b2);rw[<-af.o.cell ((Mv.of HK.o).trans b2).chg k]at y;have cP:V _:=cX;have cU:V _:=c6;have cQ:V _:=cy;have cp:V _:=cW;have aR:V _:=an;have ct:V _:=bO;have cS:V _:=(Mv.of (M:=Mst P am al ar X) HK.o).trans b2;clear cV cX c6 cy cW c8 aC an bO b2;rcases ds with⟨c,p⟩|⟨aN,a2⟩
 ·exact xcv
 exact xbd):Zp:=h
theorem xar(h:Zp:=by
 have ah:=bk.o;generalize Lib.bytesWorld _ 5 _=W2 at o bQ C;generalize wr.heap.size=ab at o bQ;generalize grownCap _ _ 0 5=b3 at o;go_upto_region 12 with (go_at_call 55;refine yai (rm _ _ _ _ _ bQ.o xaa) ?_;rintro e bm ⟨b8,c,rfl,q,bf⟩);have aG:V _:=(aH.o.trans C.o).trans (bf.kept 0 0);have p:=J.o _ (C.o.trans (bf.kept 0 0));rcases u.o with⟨F,an⟩|⟨l,au⟩
 ·exact xgs
 exact xay):Zp:=h
theorem xas(h:Zp:=by
 go_wp2;go_roundw
 case rel=>exact⟨k+1,by omega,by go_num,aa.o⟩
 case measure=>simp[intOf];omega):Zp:=h
theorem xat(h:Zp:=by
 intro e af az;obtain⟨zs,rfl,(S:V _),(Y:V _),(t:V _),(u:V _),(v:V _)⟩:=az;go_wp2;go_ret;exact Made.kres ⟨zs,rfl,S.o,Y.o,t.o,u.o,v.o⟩ U.o HE.o):Zp:=h
theorem xau(h:Zp:=by
 rw[show fk 11 len C l F s=false by rw[Bool.eq_false_iff];intro b3;simp[fk,eR,cnt,lenB,fI]at b3;omega];exact xav):Zp:=h
theorem xav(h:Zp:=by
 clear bw;go_enter func39,ntmps39;go_wp2_with (first|(go_at_call 61;refine(fR _ _ xaa xaa).mono ?_;rintro e af ⟨rfl,rfl⟩;simp only[show fF 11=false from rfl])|(go_at_call 37;refine(fd _ _ xaa xaa).mono ?_;rintro e af ⟨rfl,rfl⟩;simp only[show iB 11=1 from rfl]));go_ret;exact⟨rfl,rfl⟩):Zp:=h
theorem xaw(h:Zp:=by
 rintro e af ⟨z,rfl,bp,r,bf⟩;have aH:=C.drawn bf;obtain⟨bc,aJ⟩:=aH.cell aF;have m3:=aH.free;have aa:V _:=aH.step yad bp (aq.o z r) aF;clear C aH bf r;exact xas):Zp:=h
theorem xax(h:Zp:=by
 have bg:=ad.o.v.c3;exact xag):Zp:=h
theorem xay(h:Zp:=by
 have S:c=b5/\c≠0:=by
  exact xet
 have Y:(c !=0)=true:=by unfold bne;rw[yaw S.2];rfl
 have H:V _:=aV.o.trans aG.o;obtain⟨bY,br,ag,fr⟩:=a5.o _ H.o;have bG:=fr 0;have f1:=fr 1;have f2:=fr 2
 have ax:(((bm.drew.setCell ⟨bL,0,none⟩ (.slice none 0 0)).setCell ⟨bL,1,none⟩ (.slice none 0 0)).setCell ⟨bL,2,none⟩ (.slice none 0 0)).cell? ⟨al,i*3+1,none⟩=some (hI aS):=by
  exact xjn
 obtain⟨bh,aU,aY⟩:=fj _ _ _ _ _ bY br ag (.slice none 0 0) (.slice none 0 0) (.slice none 0 0);have bM:(bm.setCell ⟨_,0,_⟩ _).cell? _=some (.slice none 0 0):=fJ _ _ _ _ _ bY;have aZ:((bm.setCell ⟨bL,0,_⟩ (.slice none 0 0)).setCell _ _).cell? _=some (.slice none 0 0):=fJ _ _ _ _ _ ((eO _ _ _ _ _ _ (.inr xaa)).trans br);have aa:V (Kept 0 0 w (((bm.drew.setCell _ (.slice none 0 0)).setCell _ (.slice none 0 0)).setCell _ (.slice none 0 0))):=Al ((HK.o.trans H.o).trans (eF _)) (Nat.le_of_eq aI.o) _ _ _;have cI:V _:=r.o l;have s:V _:=S.1;clear S au q l u bQ C o bf ba aO aR fr a5;go_upto_region 13 with fail;go_region
 all_goals (
  go_wp2_with fail
  refine yay (v:=.tuple #[vT,hI c,hI aS]) (by simp[results,results29,go_sem,bM,aZ,aY]) rfl ?_
  rw[<-bz.o,cI.o,<-s.o]
  exact⟨rfl,aa.o⟩)):Zp:=h
theorem xaz(h:Zp:=by
 clear bB bw aT m j g r;exact xas):Zp:=h
theorem xba(h:Zp:=by
 intro v' bo bB bw _;have aa:V _:=Grow.step z m j g x aJ ae.o bB bw;exact xaz):Zp:=h
theorem xbb(h:Zp:=by
 obtain⟨⟨ay,bc,bd,bg,Z,s⟩,b4,bi,a5,z,aS,hn,ad,HO⟩:=H.op N ab m1 ae m3 ak;clear H;unfold MvC;go_enter func146,ntmps146;go_wp2_with fail;rw[aS.o];clear ay bc bd bg Z s aS;refine fC (Fv ad xaa ?_);clear ad;unfold MfK;intros;rename_i wc C;obtain⟨q,aG,cap',f,J,ad⟩:=C;obtain⟨_,_,s0,ax,aN,_,_,_,_⟩:=ad.o.g;go_wp2_with fail;refine(MS.lst ad.o xaa (show(q.length:Int)-1=(vs.length:Nat) by have:=f.o.2;omega)).mono ?_;clear ad s0 ax aN;rintro e h ⟨rfl,ad⟩;obtain⟨_,_,s0,ax,aN,_,_,_,_⟩:=ad.o.g;go_wp2_with fail;refine(MS.orX ad.o _ _ xaa).mono ?_;clear ad s0 ax aN;rintro e af ⟨vs2,x,v,F,m,cX,p,Y,rfl,⟨_,bn⟩,⟨_,aC⟩,⟨_,a0⟩,bq,br,bC,bf,ad⟩;go_wp2_with fail;rw[bf.o];clear bf bn aC a0 bq br bC;obtain⟨_,_,s0,ax,aN,_,_,_,_⟩:=ad.o.g;go_wp2_with fail;refine(MS.orX ad.o _ _ xaa).mono ?_;clear ad s0 ax aN;rintro e af ⟨t,P,I,O,B,cX,g,n,rfl,⟨_,bn⟩,⟨_,aC⟩,⟨_,a0⟩,bq,br,bC,bf,ad⟩;go_wp2_with fail;rw[bf.o];clear bf bn aC a0 bq br bC;refine fC (xl ad xaa ?_);clear ad;unfold MfK;intros;rename_i wc C;obtain⟨j,aG,cap',l,bz,ad⟩:=C;go_wp2_with fail;have b2:=Fz xaa xaa f.o.1 p.o g.o l.o.1;exact no_implicit_lambda% xcd):Zp:=h
theorem xbc(h:Zp:=by
 obtain⟨k,O,rfl,bB⟩:=hrel;by_cases q:k<15
 ·exact xcm
 exact xct):Zp:=h
theorem xbd(h:Zp:=by
 obtain⟨bX,c7⟩:=cQ.o aN a2 rfl;have ev:¬((a2:Int)<0):=xaa;have cr:V _:=cU.o aN a2 rfl;have cR:V _:=v.o.trans bX
 have cJ:V (∀i∈xs++[a2],i<aN.vs.length):=by
  exact xdt
 go_upto_region 41 with (go_at_call 93;refine yai cp.o ?_;rintro e bm ⟨rfl,aU,aY,bW,b9,bv,bB⟩);have HFn:V _:=FtI.step aR.o ct.o bG.o.row bv bB;have cO:V (aD.heap.size<=bm.heap.size):=by show _<=_;have:=aR.o.chg.size;have:=bB.chg.size;omega
 have cT:V _:=cR.o.m;have cl:(bm.alloc (.cells #[hI a2] 3)).cell? ⟨bm.heap.size,0,none⟩=some (hI a2):=by rw[yau];rfl
 have bl:=ez 0 0 bm (.cells #[hI a2] 3);have bk:V _:=HFn.o.keep bl;clear HFn bG aR ct cS cQ cp cP cU y bv bB v O bT bX;go_wp2_with (first|(at_builtin;refine jN _ rfl _ _ rfl aD.heap.size _ xs rfl bk.o.row ⟨bm.heap.size,0,none⟩ a2 rfl cl ?c2 ?c3 ?_)|fail)
 case c2=>have:=az.o;omega
 case c3=>have:=cO.o;simp;omega
 intro g9 cap9 n9 bo bS bZ ag cj;have R1:V _:=FtI.app (st:=aN) (bx.o.keep HK.o) cT.o bk.o bZ ag (cj.imp id (λe=>by rw[e];simp));exact xdp):Zp:=h
theorem xbe(h:Zp:=by
 clear ad;unfold MfK;intros;rename_i wc C;obtain⟨q,aG,cap',f,J,ad⟩:=C;obtain⟨_,_,s0,ax,aN,_,_,_,_⟩:=ad.o.g;go_wp2_with fail;refine(MS.lst ad.o xaa (show(q.length:Int)-1=(vs.length:Nat) by have:=f.o.2;omega)).mono ?_;clear ad s0 ax aN;rintro e h ⟨rfl,ad⟩;have ay:=ad.o.v.c0;have m:(0:Int)<=(vs.length:Nat):=xaa;obtain⟨_,_,s0,ax,aN,_,_,_,_⟩:=ad.o.g;obtain⟨_,bj,aQ,a6,bL,bI,bJ⟩:=ad.o.b;go_wp2_with fail;obtain⟨bh,aU,aY⟩:=fj _ _ _ _ _ bj aQ a6 (.slice N m1 ae) (hH aG q.length cap') (.slice ab m3 ak);exact yay (by simp[results,results146,go_sem,bh,aU,aY]) rfl (MS.fin ad.o hQ (by rw[f.o.1]<;>simp))):Zp:=h
theorem xbf(h:Zp:=by
 have az:=mH n w xaa;have aT:=iL w n (λk=>c (xs.getD k 0));generalize t:w.alloc (.cells (madeCells #[.float .f64 0] n) 49)=aB at az aT;clear t;have F:V (∀k,k<n->w.cell? ⟨bY,ai+k,none⟩=some (.float .f64 (xs.getD k 0))):=H;have Q:V (∀x∈xs,x<18446744073709551616):=bN;clear H bN;go_enter func80,ntmps80;go_wp2_with fail;clear az;go_loopw [6,7,13] (λ_ _ i W=>∃k:Nat,k<=n/\i=hI k/\Making w.heap.size n k (λk=>c (xs.getD k 0)) w W) (λ_ _ i _=>n-(intOf i).toNat)
 case atStart=>exact⟨0,Nat.zero_le _,rfl,aT⟩
 case round=>
  exact xcl):Zp:=h
theorem xbg(h:Zp:=by
 go_upto_region 31 with fail;obtain⟨_,bj,aQ,a6,_,_,_⟩:=U.o.bx;obtain⟨_,bn,aC,a0,bq,br,bC⟩:=U.o.rs;go_wp2_with fail;obtain⟨bk,a8,p2⟩:=fj _ (w.heap.size+1) _ _ _ bn aC a0 (.slice a1 ins.length c1) (hH g vs.length c2) (.slice a3 outs.length c3);exact yay (v:=eZ a1 ins.length c1 (some ⟨g,0,none⟩) vs.length c2 a3 outs.length c3) (by simp[results,results52,go_sem,bk,a8,p2]) rfl av.o):Zp:=h
theorem xbh(h:Zp:=by
 refine⟨⟨#[102,105,108,108,40]⟩++ax++⟨#[44,32]⟩++aN++⟨#[41]⟩,bi,gu (by simp only[yaq,gl,yap,List.length_nil];omega) xab λz X W aw=>?_⟩;repeat (rw[yaq]at z;refine sz2 z ?_;clear z;intro _ z)
 exact xap):Zp:=h
theorem xbi(h:Zp:=by
 obtain⟨⟨ay,bc,bd,bg,Z,s⟩,b4,bi,a5,z,aS,hn,ad,HO⟩:=H.op N ab m1 ae m3 ak;clear H;unfold MvC;go_enter func146,ntmps146;go_wp2_with fail;rw[aS.o];clear ay bc bd bg Z s aS;obtain⟨_,_,s0,ax,aN,_,_,_,_⟩:=ad.o.g;refine(MS.orX ad.o _ _ xaa).mono ?_;clear ad s0 ax aN;rintro e af ⟨q,l,j,aa,h,cX,f,J,rfl,⟨_,bn⟩,⟨_,aC⟩,⟨_,a0⟩,bq,br,bC,bf,ad⟩;go_wp2_with fail;rw[bf.o];clear bf bn aC a0 bq br bC;obtain⟨_,_,s0,ax,aN,_,_,_,_⟩:=ad.o.g;go_wp2_with fail;refine(MS.orX ad.o _ _ xaa).mono ?_;clear ad s0 ax aN;rintro e af ⟨vs2,x,v,F,m,cX,p,Y,rfl,⟨_,bn⟩,⟨_,aC⟩,⟨_,a0⟩,bq,br,bC,bf,ad⟩;go_wp2_with fail;rw[bf.o];clear bf bn aC a0 bq br bC;refine fC (xl ad xaa ?_);clear ad;unfold MfK;intros;rename_i wc C;obtain⟨t,aG,cap',g,n,ad⟩:=C;go_wp2_with fail;have b2:=Fy xaa xaa f.o p.o g.o.1;exact no_implicit_lambda% xcd):Zp:=h
theorem xbj(h:Zp:=by
 intros;rename_i HK;have bl:V (∀aD,Kept 0 0 W aD->_):=λaD k=>MS.call ad.o k (eL 5 Q bQ r 0) xaa;have s0:=ad.o.g.c0;have ax:=ad.o.g.c1;have aN:=ad.o.g.c2;have bg:=ad.o.v.c3;have aK:V (∀W:World,_):=λW=>je W N a2 ab m1 ae vs.length cap m3 ak xaa;rw[bF]at aK;clear bF;conv=>arg 2;whnf
 go_region_with (first
  |(go_at_call 32;refine yai (bl.o _ (((eF W).trans l).trans an)) ?_;rintro e af ⟨aG,cap',rfl,⟨a9,bn⟩,⟨am,aC⟩,⟨al,a0⟩,aj,_,aH⟩;have bq:=aj 0;have br:=aj 1;have bC:=aj 2;clear aj)
  |(go_at_call 35;refine yai (aK.o _) ?_;rintro e h ⟨rfl,l⟩;have bN:=(MS.keep ad.o ((eF W).trans l)).g.c0;have bP:=(MS.keep ad.o ((eF W).trans l)).g.c1;have b8:=(MS.keep ad.o ((eF W).trans l)).g.c2;have bz:=(MS.keep ad.o ((eF W).trans l)).v.c3)
  |(go_at_call 34;refine yai (gQ _ _ _ _ _ _) ?_;rintro e aB ⟨rfl,an⟩;have bk:=(MS.keep ad.o (((eF W).trans l).trans an)).g.c0;have a8:=(MS.keep ad.o (((eF W).trans l).trans an)).g.c1;have p2:=(MS.keep ad.o (((eF W).trans l).trans an)).g.c2))
 all_goals exact HK _ ⟨_,_,_,⟨rfl,by simp⟩,by simp,aH⟩):Zp:=h
theorem xbk(h:Zp:=by
 obtain rfl:k=n:=xaa;have aa:V _:=an.done B U.o;clear an r;go_wp2;go_ret;exact aa.o):Zp:=h
theorem xbl(h:Zp:=by
 go_upto_region 24 with fail;clear c1;exact xam):Zp:=h
theorem xbm(h:Zp:=by
 generalize W.heap.size=bL at aI⊢;have bb:=aI.o.c0;clear c0 c1 c2 z ai;go_upto_region 22 with fail;have aA:=aI.o.c2;have Z:=Lib.run_convert_string_bytes (P:=prog) aD 9 22 5 ⟨bp.toArray⟩ underlying9 underlying22 underlying5;have bQ:V _:=qN aD 5 bp;have bN:V _:=mX aD 5 ⟨bp.toArray⟩;have cc:(⟨bp.toArray⟩:ByteArray).size=bp.length:=rfl;rw[cc]at Z;have o:(convert 9 22 (eN bp)).run prog aD=_:=Z;clear Z cc;generalize Lib.bytesWorld aD 5 ⟨bp.toArray⟩=W2 at o bQ bN;generalize aD.heap.size=ab at o bQ;generalize grownCap aD bp.length 0 5=b3 at o;go_upto_region 23 with (go_at_call 55;refine yai (rm W2 _ _ _ _ bQ.o xaa) ?_;rintro e bm ⟨f,c,rfl,q,bf⟩);obtain⟨rfl,rfl⟩:=rE bD.o q;have bX:V _:=bN.o.trans (bf.kept 0 0);have N:=(aI.o.keep bX.o).c1;have a7:V _:=bM.o bm (HK.o.trans bX.o);clear bM bQ bN o bf q bb aA aI bX HK bD;generalize oB bp=j at a7;go_wp2_with (go_at_call 96;refine yai a7.o ?_;rintro e bA ⟨⟨x,rfl⟩,bi⟩);go_ret;exact bi.o):Zp:=h
theorem xbn(h:Zp:=by
 have bl:V _:=kH ((aP.o _ K.o.k).cut (i:=i) m.o.2) (cap-i);have av:=m.o.1;have bM:(0:Int)<=i:=xaa;have aZ:(i:Int)<=k:=xaa;have be:(k:Int)<=cap:=hR m.o.2
 have ae:((k:Int)-i).toNat=k-i:=xaa;have aY:=K.o.t.c2;have bW:=K.o.t.fr 2;have ai:=bl.o;go_upto_region 25 with fail;change Code.wp _ _ _ _ (wr.setCell _ (eN _));have l:V _:=K.o.text (kZ t i k);clear bl ai aY bW av bM aZ be ae;generalize wr.setCell _ _=aD at l⊢;generalize au:kZ t i k=x at l;have bv:V _:=au;clear au;obtain⟨_,bn,aC,a0,aj⟩:=l.o.r;obtain⟨_,bj,aQ,a6,r⟩:=l.o.t;have bq:=aj 0;have br:=aj 1;have bC:=aj 2;have aa:V _:=l.o.fin;clear aj r l;go_wp2_with fail;change bodyPost _ _ _ _ _ (((aD.setCell _ (eN _)).setCell _ _).setCell _ (eN x));generalize ((aD.setCell _ _).setCell _ _).setCell _ _=b1 at aa⊢;obtain⟨⟨_,bG,f1,f2,_⟩,H⟩:=aa.o;refine yay (v:=.tuple #[.agg #[eN lg,hI i,eN x],hI k]) (by simp[results,results89,go_sem,bG,f1,f2]) rfl ⟨?_,H⟩;rw[bf.o.1,bf.o.2,bv.o];rfl):Zp:=h
theorem xbo(h:Zp:=by
 clear ba aO;exact xat):Zp:=h
theorem xbp(h:Zp:=by
 clear bw;go_enter func39,ntmps39;go_wp2_with (first|(go_at_call 61;refine(fR _ _ xaa xaa).mono ?_;rintro e af ⟨rfl,rfl⟩;simp only[show fF 12=false from rfl])|(go_at_call 37;refine(fd _ _ xaa xaa).mono ?_;rintro e af ⟨rfl,rfl⟩;simp only[show iB 12=1 from rfl]));go_ret;exact⟨rfl,rfl⟩):Zp:=h
theorem xbq(h:Zp:=by
 clear bw;go_enter func39,ntmps39;go_wp2_with (first|(go_at_call 61;refine(fR _ _ xaa xaa).mono ?_;rintro e af ⟨rfl,rfl⟩;simp only[show fF 9=false from rfl])|(go_at_call 37;refine(fd _ _ xaa xaa).mono ?_;rintro e af ⟨rfl,rfl⟩;simp only[show iB 9=1 from rfl]));go_ret;exact⟨rfl,rfl⟩):Zp:=h
theorem xbr(h:Zp:=by
 go_enter func39,ntmps39;go_wp2_with (first|(go_at_call 61;refine(fR _ _ xaa xaa).mono ?_;rintro e af ⟨rfl,rfl⟩;simp only[show fF 8=true from rfl])|(go_at_call 37;refine(fd _ _ xaa xaa).mono ?_;rintro e af ⟨rfl,rfl⟩;simp only[show iB 8=3 from rfl]));go_ret;exact⟨rfl,rfl⟩):Zp:=h
theorem xbs(h:Zp:=by
 refine⟨ax,bi,gu xaa xab λz X W aw=>?_⟩;repeat (rw[yaq]at z;refine sz2 z ?_;clear z;intro _ z)
 exact xap):Zp:=h
theorem xbt(h:Zp:=by
 obtain⟨⟨ay,bc,bd,bg,Z,s⟩,b4,bi,a5,z,aS,hn,ad,HO⟩:=H.op N ab m1 ae m3 ak;clear H;unfold MvC;go_enter func146,ntmps146;go_wp2_with fail;rw[aS.o];clear ay bc bd bg Z s aS;refine fC (wX ad xaa ?_);exact no_implicit_lambda% xbe):Zp:=h
theorem xbu(h:Zp:=by
 go_wp2_with fail;exact xbz):Zp:=h
theorem xbv(h:Zp:=by
 rw[show fk 12 len C l F s=false by rw[Bool.eq_false_iff];intro b3;simp[fk,eR,cnt,lenB,fI]at b3;omega];exact xbp):Zp:=h
theorem xbw(h:Zp:=by
 clear ad;unfold PfK;intros;rename_i wc C;obtain⟨t,aG,cap',g,n,ad⟩:=C;go_wp2_with fail;refine fC (kN ad xaa (show(t.length:Int)-1=((vs.length:Nat)+2) by have:=f.o.2;have:=p.o.2;have:=g.o.2;omega) ?_);unfold PfK;intros;rename_i aT C;obtain⟨bh,aU,aY,HR⟩:=C;go_wp2_with fail;exact yay (by simp[results,results145,go_sem,bh,aU,aY]) rfl (MS.finPR ad.o HR.o (by rw[g.o.1,p.o.1,f.o.1]<;>simp))):Zp:=h
theorem xbx(h:Zp:=by
 rw[show fk 9 len C l F s=false by rw[Bool.eq_false_iff];intro b3;simp[fk,eR,cnt,lenB]at b3;omega];exact xbq):Zp:=h
theorem xby(h:Zp:=by
 obtain⟨⟨ay,bc,bd,bg,Z,s⟩,b4,bi,a5,z,aS,hn,ad,HO⟩:=H.op N ab m1 ae m3 ak;clear H;unfold MvC;go_enter func146,ntmps146;go_wp2_with fail;exact yay (by simp[results,results146,go_sem]) rfl (sG HO.o (((ez 0 0 w _).trans (ez 0 0 _ _)).trans (ez 0 0 _ _)) _)):Zp:=h
theorem xbz(h:Zp:=by
 obtain⟨_,ba,aO,aR,_,_,_⟩:=aw.o.bx;have ai:=bl.o;go_region_with (first|(go_at_call 32;refine yai (aP.o _ _ _ _ _ _ _ N.o av.o _ aM) ?_;rintro e af ⟨aG,cap',rfl,aB,aX⟩;obtain⟨_,bn,aC,a0,bq,br,bC⟩:=aB)|(go_at_call 34;refine yai (gQ _ _ _ _ _ _) ?_;rintro e aT ⟨rfl,aM⟩;obtain⟨_,s0,ax,aN,_,_,_⟩:=(N.o.keep aM).bx)|(go_at_call 13;refine yai (aw.o.keep (eF _)).next ?_;rintro e ar ⟨rfl,(N:V _),b6⟩;have av:V _:=HK.o.trans ((fw (eF _)).trans b6);obtain⟨_,bM,aZ,be,_,_,_⟩:=N.o.bx;clear b6))
 all_goals
  go_wp2_with fail
  obtain⟨bj,aQ,a6⟩:=fj af (w.heap.size+1) _ _ _ bn aC a0 (.slice a1 Y c1) (hH aG (vs.length+1) cap') (.slice a3 Z c3)
  exact yay (v:=eZ a1 Y c1 (some ⟨aG,0,none⟩) (vs.length+1) cap' a3 Z c3) (by simp[results,results36,go_sem,bj,aQ,a6]) rfl aX):Zp:=h
theorem xca(h:Zp:=by
 have ae:(fh p vs (i+1)).2.getD i 0=gi p (fh p vs i).1 (rnm (fh p vs i).2 (vs.getD i hM)) i:=by
  exact xfn
 have B:=E1.to0 i yae;have R:=E1.root i yae;rw[ae]at B R;exact⟨_,(Int.toNat_of_nonneg B.1).symm,by omega,by rw[R];exact(Int.toNat_of_nonneg B.1).symm⟩):Zp:=h
theorem xcb(h:Zp:=by
 unfold MfK;intros;rename_i aT C;obtain⟨bh,aU,aY,HR⟩:=C;go_wp2_with fail;exact yay (by simp[results,results146,go_sem,bh,aU,aY]) rfl (MS.finR ad.o HR.o (by rw[f.o.1]<;>simp))):Zp:=h
theorem xcc(h:Zp:=by
 have B:=h.keep k;refine(rU _ _ _ _ _ _ _ _ _ _ _ u B.g.own B.g.sz hn).mono ?_;rintro e af ⟨aG,cap',rfl,own,s⟩;rw[h.g.row]at s;have hb:=s.chg.block _ B.g.lt (by rintro (c|c);exact c;exact h.g.ne c);have e:∀o,_:=λo=>World.cell?_of_block (a:=⟨w.heap.size,o,none⟩) hb;have x:∀o,_:=λo=>World.frozen?_of_block (a:=⟨w.heap.size,o,none⟩) hb;have ah:(vs++[u]).length=vs.length+1:=by simp
 have aw:=h.step (vs2:=vs++[u]) (a2':=some ⟨aG,0,none⟩) (cap':=cap') (l:=W.heap.size) (h':=W.heap.size) k (by rw[ah];exact own) (R':=some aG) rfl s ((Kept.refl 0 0 af).mono λ_ _ c=>by omega) yad (λg _=>by omega);rw[ah]at aw;exact⟨_,_,rfl,⟨_,(e 0).trans B.g.c0⟩,⟨_,(e 1).trans B.g.c1⟩,⟨_,(e 2).trans B.g.c2⟩,λo=>by rw[x];exact B.g.free o,aw⟩):Zp:=h
theorem xcd(h:Zp:=by
 have HE:V _:=b2;clear b2;refine fC (wY ad xaa (HE.o.2) ?_);unfold MfK;intros;rename_i aT C;obtain⟨bh,aU,aY,HR⟩:=C;go_wp2_with fail;exact yay (by simp[results,results146,go_sem,bh,aU,aY]) rfl (MS.finR ad.o HR.o HE.o.1)):Zp:=h
theorem xce(h:Zp:=by
 intros;rename_i HK;have bl:V (∀aD,Kept 0 0 W aD->_):=λaD k=>MS.call ad.o k (eL 3 Q y r 0) xaa;have s0:=ad.o.g.c0;have ax:=ad.o.g.c1;have aN:=ad.o.g.c2;have bd:=ad.o.v.c2;exact xax):Zp:=h
theorem xcf(h:Zp:=by
 rcases K with K|K<;>exact⟨⟨#[112,117,116,40]⟩++ax++⟨#[44,32]⟩++sv++⟨#[44,32]⟩++e++⟨#[41]⟩,ni bs bi,gu WkS az λz X W aw=>WkE⟩):Zp:=h
theorem xcg(h:Zp:=by
 go_region_with (first
  |(go_at_call 32;refine yai (aP.o _ ((eF _).trans b0)) ?_;rintro e af ⟨us,aG,cap',rfl,cn,aB,aX⟩;obtain⟨_,bn,aC,a0,bq,br,bC⟩:=aB)
  |(go_at_call 34;refine yai (gQ _ _ _ _ _ _) ?_;rintro e H ⟨rfl,b0⟩;obtain⟨_,ba,aO,aR,_,_,_⟩:=(HD.o.keep ((eF _).trans b0)).bx))
 all_goals exact aW.o (L2.of HSV.o cn.o aX)):Zp:=h
theorem xch(h:Zp:=by
 unfold PfC;intros;rename_i HK;have bl:V (∀aD,Kept 0 0 W aD->_):=λaD k=>MS.call ad.o k (eL 4 Q d i 0) xaa;exact xah):Zp:=h
theorem xci(h:Zp:=by
 generalize W.alloc (.cells #[hI 2,hI 3,hI 4,hI 5,hI 7] 3)=aH at*;clear bj aQ a6 an ao ap;obtain⟨_,bj,aQ,a6,an,ao,ap⟩:=HD.o.bx;have bH:0<=(c:Int)/8:=xaa;have y:IntKind.i64.wrap ((c:Int)/8)=(c:Int)/8:=by rw[IntKind.wrap_i64];omega
 have z:((c:Int)/8).tmod 5=(q:Int):=(Int.tmod_eq_emod_of_nonneg bH).trans r;clear ai b5 Y U s R f bH r;exact xcg):Zp:=h
theorem xcj(h:Zp:=by
 generalize g.vs.length=ec at*;generalize g.ins.length=cB at*;generalize g.outs.length=cD at*;go_upto_region 33 with (go_at_call 141;refine yai bU.o ?_;rintro e m ⟨⟨N,aS,ab,ba,a2,aF,rfl,aO,aR,b2,bK⟩,cC⟩);have bH:V (∀W',Kept 0 0 m W'->_):=λW' ap=>bP.o W' N aS a2 aF ab ba (cC.trans ap) (e8 aO ap) (e8 aR ap) (e8 b2 ap) bK;have cQ:V (∀W',Kept 0 0 m W'->_):=λW' ap=>(ci.o.keep (cC.trans ap)).c1;clear aO aR b2 bK bP bU cK bk a8 p2;have d2:=cQ.o _ (ez 0 0 m (eY N cB aS a2 S.length aF ab cD ba));have n:V _:=bH.o _ (ez 0 0 m (eY N cB aS a2 S.length aF ab cD ba));go_wp2_with (go_at_call 140;refine yai n.o ?_;rintro e bo ⟨⟨x,rfl⟩,bi⟩);go_ret;exact bi.o):Zp:=h
theorem xck(h:Zp:=by
 go_wp2_with fail;exact xcn):Zp:=h
theorem xcl(h:Zp:=by
 obtain⟨k,O,rfl,C⟩:=hrel;clear aT;by_cases aF:k<n
 ·exact xcz
 obtain rfl:k=n:=xaa;go_wp2;go_ret;exact C.done):Zp:=h
theorem xcm(h:Zp:=by
 have c1:=bB.o.c k q;have c2:=bB.o.n.t.c2;generalize m:keysL.getD k _=C at c1;go_upto_region 12 with fail;go_quiet (fail)
 have bX:V _:=bB.o.keep (eM 0 0 _ nq);clear c1 c2 bB;generalize wr.drewN _=b4 at bX⊢;have aY:=bX.o.n.t.c0;have bW:=bX.o.n.t.fr 0;have b9:=bX.o.n.t.c2;cases aq:(C==x)
 ·exact xgi
 exact xgp):Zp:=h
theorem xcn(h:Zp:=by
 obtain⟨_,ba,aO,aR,_,_,_⟩:=aw.o.bx;go_region_with (first|(go_at_call 32;refine yai (aP.o _ _ _ _ _ _ _ aw.o HK.o _ ((eF _).trans aM)) ?_;rintro e af ⟨aG,cap',rfl,aB,aX⟩;obtain⟨_,bn,aC,a0,bq,br,bC⟩:=aB)|(go_at_call 34;refine yai (gQ _ _ _ _ _ _) ?_;rintro e aT ⟨rfl,aM⟩;obtain⟨_,s0,ax,aN,_,_,_⟩:=(aw.o.keep ((eF _).trans aM)).bx))
 all_goals
  go_wp2_with fail
  obtain⟨bj,aQ,a6⟩:=fj af (w.heap.size+1) _ _ _ bn aC a0 (.slice a1 Y c1) (hH aG (vs.length+1) cap') (.slice a3 Z c3)
  exact yay (v:=eZ a1 Y c1 (some ⟨aG,0,none⟩) (vs.length+1) cap' a3 Z c3) (by simp[results,results36,go_sem,bj,aQ,a6]) rfl aX):Zp:=h
theorem xco(h:Zp:=by
 go_enter func39,ntmps39;go_wp2_with (first|(go_at_call 61;refine(fR _ _ xaa xaa).mono ?_;rintro e af ⟨rfl,rfl⟩;simp only[show fF 2=true from rfl])|(go_at_call 37;refine(fd _ _ xaa xaa).mono ?_;rintro e af ⟨rfl,rfl⟩;simp only[show iB 2=2 from rfl]));go_ret;exact⟨rfl,rfl⟩):Zp:=h
theorem xcp(h:Zp:=by
 go_enter func39,ntmps39;go_wp2_with (first|(go_at_call 61;refine(fR _ _ xaa xaa).mono ?_;rintro e af ⟨rfl,rfl⟩;simp only[show fF 3=true from rfl])|(go_at_call 37;refine(fd _ _ xaa xaa).mono ?_;rintro e af ⟨rfl,rfl⟩;simp only[show iB 3=2 from rfl]));go_ret;exact⟨rfl,rfl⟩):Zp:=h
theorem xcq(h:Zp:=by
 go_enter func39,ntmps39;go_wp2_with (first|(go_at_call 61;refine(fR _ _ xaa xaa).mono ?_;rintro e af ⟨rfl,rfl⟩;simp only[show fF 4=true from rfl])|(go_at_call 37;refine(fd _ _ xaa xaa).mono ?_;rintro e af ⟨rfl,rfl⟩;simp only[show iB 4=2 from rfl]));go_ret;exact⟨rfl,rfl⟩):Zp:=h
theorem xcr(h:Zp:=by
 go_enter func39,ntmps39;go_wp2_with (first|(go_at_call 61;refine(fR _ _ xaa xaa).mono ?_;rintro e af ⟨rfl,rfl⟩;simp only[show fF 5=true from rfl])|(go_at_call 37;refine(fd _ _ xaa xaa).mono ?_;rintro e af ⟨rfl,rfl⟩;simp only[show iB 5=2 from rfl]));go_ret;exact⟨rfl,rfl⟩):Zp:=h
theorem xcs(h:Zp:=by
 go_enter func39,ntmps39;go_wp2_with (first|(go_at_call 61;refine(fR _ _ xaa xaa).mono ?_;rintro e af ⟨rfl,rfl⟩;simp only[show fF 7=true from rfl])|(go_at_call 37;refine(fd _ _ xaa xaa).mono ?_;rintro e af ⟨rfl,rfl⟩;simp only[show iB 7=2 from rfl]));go_ret;exact⟨rfl,rfl⟩):Zp:=h
theorem xct(h:Zp:=by
 obtain rfl:k=15:=xaa;have u:V _:=bB.o.n;rw[show rX x _=mA x from rfl]at u;obtain⟨_,bn,aC,a0,aj⟩:=u.o.r;obtain⟨_,bj,aQ,a6,r⟩:=u.o.t;have bq:=aj 0;have br:=aj 1;have bC:=aj 2;have aa:V _:=u.o.fin;generalize z:mA x=F at bj aa;have am:V _:=z;clear bB aj r u z;go_wp2_with fail;change bodyPost _ _ _ _ _ (((wr.setCell _ (eN _)).setCell _ _).setCell _ (eN x));generalize ((wr.setCell _ _).setCell _ _).setCell _ _=b1 at aa⊢;obtain⟨⟨_,bG,f1,f2,_⟩,H⟩:=aa.o;refine yay (v:=.tuple #[.agg #[eN F,hI i,eN x],hI j]) (by simp[results,results89,go_sem,bG,f1,f2]) rfl ⟨?_,H⟩;rw[bv.o,am.o];rfl):Zp:=h
theorem xcu(h:Zp:=by
 have J:=ad.o.len1 hj ao;have b4:0<=(j:Int):=xaa;have bi:(j:Int)<vs.length:=xaa;clear ao;exact xag):Zp:=h
theorem xcv(h:Zp:=by
 have aJ:V (r=.error (c,p)):=by show _=_;rw[HR.o,cP.o _ rfl];rfl
 go_wp2_with (go_at_call 93;refine yai cp.o ?_;rintro e bm ⟨rfl,bi⟩);go_ret;rw[aJ.o];exact TrO.after cS.o ⟨rfl,bi⟩):Zp:=h
theorem xcw(h:Zp:=by
 obtain⟨⟨ay,bc,bd,bg,Z,s⟩,b4,bi,a5,z,aS,hn,ad,HO⟩:=H.op N ab m1 ae m3 ak;clear H;unfold PtC;go_enter func145,ntmps145;go_wp2_with fail;rw[aS.o];clear ay bc bd bg Z s aS;refine fC (LI ad xaa ?_);exact no_implicit_lambda% xan):Zp:=h
theorem xcx(h:Zp:=by
 obtain⟨⟨ay,bc,bd,bg,Z,s⟩,b4,bi,a5,z,aS,hn,ad,HO⟩:=H.op N ab m1 ae m3 ak;clear H;unfold MvC;go_enter func146,ntmps146;go_wp2_with fail;rw[aS.o];clear ay bc bd bg Z s aS;refine fC (LE ad xaa ?_);clear ad;unfold MfK;intros;rename_i wc C;obtain⟨q,aG,cap',f,J,ad⟩:=C;go_wp2_with fail;refine fC (LD ad xaa (show(q.length:Int)-1=(vs.length:Nat) by have:=f.o.2;omega) ?_);exact no_implicit_lambda% xcb):Zp:=h
theorem xcy(h:Zp:=by
 obtain⟨⟨ay,bc,bd,bg,Z,s⟩,b4,bi,a5,z,aS,hn,ad,HO⟩:=H.op N ab m1 ae m3 ak;clear H;unfold PtC;go_enter func145,ntmps145;go_wp2_with fail;exact yay (by simp[results,results145,go_sem]) rfl (xg HO.o (((ez 0 0 w _).trans (ez 0 0 _ _)).trans (ez 0 0 _ _)) _ _)):Zp:=h
theorem xcz(h:Zp:=by
 obtain⟨ay,S⟩:=C.cell aF;have m1:=C.free;have bD:=eQ C.kept bb (F.o k aF);have bl:V _:=fx Q.o k;have aq:V (∀z,fb z=fb (c (xs.getD k 0))->fb z=fb ((λk=>c (xs.getD k 0)) k)):=λ_ h=>h;generalize xs.getD k 0=x at bD bl aq;go_wp2_with fail;refine(bu _ _ bl.o).mono ?_;exact xaw):Zp:=h
theorem xda(h:Zp:=by
 have Z:=ad.o.v.c4;exact xag):Zp:=h
theorem xdb(h:Zp:=by
 go_wp2_with (first|(go_at_call 92;refine yai (b3.o _ _ bN.o) ?_;rintro e aX ⟨rfl,F⟩)|fail);exact xfa):Zp:=h
theorem xdc(h:Zp:=by
 have:=BM W (vs.getD i hM) _ _ (some ⟨w.heap.size+1+1,0,none⟩) U U _ (IR.isAt (IR.keep G.o Q yaa) (by simp[f.l2];omega)) (λo h=>hR (bV o h));rw[wS (λo h=>by have:=bV o h;rw[f.l2];omega)]at this;exact this):Zp:=h
theorem xdd(h:Zp:=by
 have ah:=sM u.o;generalize Lib.bytesWorld wr 5 ⟨bp.toArray⟩=W2 at o bQ C;generalize wr.heap.size=ab at o bQ;generalize grownCap wr bp.length 0 5=b3 at o;go_upto_region 12 with (go_at_call 55;refine yai (rm W2 _ _ _ _ bQ.o xaa) ?_;rintro e bm ⟨b8,c,rfl,q,bf⟩);obtain⟨_,rfl⟩:=rE u.o q;have aG:V _:=(aH.o.trans C.o).trans (bf.kept 0 0);clear o bQ C q bf ba aR u;exact xen):Zp:=h
theorem xde(h:Zp:=by
 have aH:V (r=.error (c,p)):=by show _=_;rw[aJ.o];unfold mG;rw[<-ce.o]
 go_wp2_with (go_at_call 123;refine yai ab.o ?_;rintro e bm ⟨rfl,bi⟩);go_ret;rw[aH.o];exact⟨rfl,bi.1,bi.2.1,((Mv.of HK.o).trans aR.o).bad bi.2.2⟩):Zp:=h
theorem xdf(h:Zp:=by
 go_roundw
 case rel=>exact⟨trivial,k+1,by omega,by go_num,aa⟩
 case measure=>simp[intOf];omega):Zp:=h
theorem xdg(h:Zp:=by
 go_enter func130,ntmps130;go_wp2_with (first|(go_at_call 13;refine yai bD.o ?_;rintro e aB ⟨rfl,ay,an,aZ⟩)|(go_at_call 57;refine yai (HD.o _) ?_;rintro e af ⟨rfl,rfl⟩));go_ret;exact⟨rfl,ay,an,aZ⟩):Zp:=h
theorem xdh(h:Zp:=by
 refine⟨s0,ni bs b4,gu xaa xab λz X W aw=>?_⟩;repeat (rw[yaq]at z;refine sz2 z ?_;clear z;intro _ z)
 exact xap):Zp:=h
theorem xdi(h:Zp:=by
 go_wp2_with fail;go_roundw
 case rel=>exact⟨k+1,F,U,by omega,by omega,by go_num,rfl,by rw[aa.o],by omega,h,j,aS,C,aH⟩
 case measure=>simp[intOf];omega):Zp:=h
theorem xdj(h:Zp:=by
 have bp:=r (j*6+0);rw[Nat.add_zero]at U av bp;exact xbg):Zp:=h
theorem xdk(h:Zp:=by
 go_round
 case rel=>exact⟨k+1,by omega,by go_num,aa⟩
 case measure=>simp[intOf];omega):Zp:=h
theorem xdl(h:Zp:=by
 clear ad;unfold PfK;intros;rename_i wc C;obtain⟨vs2,aG,cap',p,Y,ad⟩:=C;go_wp2_with fail;refine fC (kN ad xaa (show(vs2.length:Int)-1=((vs.length:Nat)+1) by have:=f.o.2;have:=p.o.2;omega) ?_);unfold PfK;intros;rename_i aT C;obtain⟨bh,aU,aY,HR⟩:=C;go_wp2_with fail;exact yay (by simp[results,results145,go_sem,bh,aU,aY]) rfl (MS.finPR ad.o HR.o (by rw[p.o.1,f.o.1]<;>simp))):Zp:=h
theorem xdm(h:Zp:=by
 have aJ:V (r=.error (c,p)):=by show _=_;rw[HR.o,HE.o _ rfl];rfl
 go_wp2_with (go_at_call 93;refine yai av.o ?_;rintro e aX ⟨rfl,bi⟩);go_ret;rw[aJ.o];exact TrO.back HK.o ⟨rfl,bi⟩):Zp:=h
theorem xdn(h:Zp:=by
 refine⟨⟨_,_,_,_,aM,⟨C.bad ⟨bp.chg.os,bp.chg.tape,bp.chg.output,bp.chg.size,λi hi hn=>bp.chg.block i hi (λc=>hn (.inl c))⟩,λb hb=>?_⟩,λb hb c=>?_⟩,fN ad bp.chg av⟩
 ·exact xhj
 exact xle):Zp:=h
theorem xdo(h:Zp:=by
 rcases Nat.lt_or_ge g W.heap.size with c|c
 ·exact c
 rw[Array.getElem?_eq_none c]at aA;cases aA):Zp:=h
theorem xdp(h:Zp:=by
 clear bZ ag cj bS bl cl;go_wp2_with fail;go_roundw
 case rel=>exact⟨k+1,aN,xs++[a2],by omega,by omega,by go_num,by rw[yak,az.o];rfl,cr,R1,cR,cJ⟩
 case measure=>simp[intOf];omega):Zp:=h
theorem xdq(h:Zp:=by
 intro v' bo bB bw _;have aa:V _:=Grow.step aT m j g r bh HE.o bB bw;exact xaz):Zp:=h
theorem xdr(h:Zp:=by
 have K:=ft W' (w.heap.size+1) (.slice N Y ae) (.slice a2 vs.length cap) (.slice ab Z ak);have hb:=h.hb
 have aw:∀{e size n:Nat}{v:Value}{xs:List _},W.ownsRow base e size v n xs->(fB W' _ _ _ _).ownsRow w.heap.size e _ v n _:=λav=>
  jd (gM (e8 av k) K (λg aW=>hR ((eI av aW).1))) xaa
 exact⟨⟨aw h.i,aw h.g.own,aw h.o⟩,Kept.new (h.k.trans k) K xaa⟩):Zp:=h
theorem xds(h:Zp:=by
 clear ad;unfold MfK;intros;rename_i wc C;obtain⟨q,aG,cap',f,J,ad⟩:=C;go_wp2_with fail;refine fC (Fj ad xaa (show(q.length:Int)-1=(vs.length:Nat) by have:=f.o.2;omega) ?_);exact no_implicit_lambda% xcb):Zp:=h
theorem xdt(h:Zp:=by
 intro i hi;rcases List.mem_append.1 hi with hi|hi
 ·exact yaj (O.o i hi) bX.n
 simp at hi;subst hi;exact c7):Zp:=h
theorem xdu(h:Zp:=by
 rw[eP]at h;cases B:eP f st u a with
 |none=>rw[B]at h;cases h
 |some aC=>
  rw[B]at h;rcases aC with⟨c,p⟩|⟨ax,x⟩
  ·cases h;exact⟨_,rfl,rfl⟩
  cases h;exact⟨_,rfl,rfl⟩):Zp:=h
theorem xdv(h:Zp:=by
 have aL:=(D 0).1;have u:=(Vaa 0).1;rcases uH s0 with⟨bj,a6⟩|⟨bj,a6⟩
 ·exact xcf
 exact xcf):Zp:=h
theorem xdw(h:Zp:=by
 cases s
 ·exact xgt
 exact xgu):Zp:=h
theorem xdx(h:Zp:=by
 clear m bX;go_wp2_with fail;go_roundw
 case rel=>exact⟨k+1,by omega,by go_num,aa⟩
 case measure=>simp[intOf];omega):Zp:=h
theorem xdy(h:Zp:=by
 have aL:=(D 0).1;have u:=(Vaa 0).1;rcases uH s0 with⟨bj,a6⟩|⟨bj,a6⟩
 ·exact xcf
 exact xhy):Zp:=h
theorem xdz(h:Zp:=by
 go_wp2_with (first|(go_at_call 92;refine yai (b3.o _ _ aV.o) ?_;rintro e bm ⟨rfl,F⟩)|fail);go_ret;rw[aa.o];exact⟨rfl,F.c5,F.c6,(Mv.of aV.o).bad F.chg⟩):Zp:=h
theorem xea(h:Zp:=by
 clear hb;go_wp2;exact xdf):Zp:=h
theorem xeb(h:Zp:=by
 clear bw a1 a2;exact xbr):Zp:=h
theorem xec(h:Zp:=by
 clear bw a1;exact xco):Zp:=h
theorem xed(h:Zp:=by
 clear bw a1;exact xcp):Zp:=h
theorem xee(h:Zp:=by
 clear bw a1;exact xcq):Zp:=h
theorem xef(h:Zp:=by
 clear bw a1;exact xcr):Zp:=h
theorem xeg(h:Zp:=by
 clear bw a1;exact xcs):Zp:=h
theorem xeh(h:Zp:=by
 clear bw;go_enter func39,ntmps39;go_wp2_with (first|(go_at_call 61;refine(fR _ _ xaa xaa).mono ?_;rintro e af ⟨rfl,rfl⟩;simp only[show fF 10=false from rfl])|(go_at_call 37;refine(fd _ _ xaa xaa).mono ?_;rintro e af ⟨rfl,rfl⟩;simp only[show iB 10=1 from rfl]));go_ret;exact⟨rfl,rfl⟩):Zp:=h
theorem xei(h:Zp:=by
 clear bw;go_enter func39,ntmps39;go_wp2_with (first|(go_at_call 61;refine(fR _ _ xaa xaa).mono ?_;rintro e af ⟨rfl,rfl⟩;simp only[show fF 13=true from rfl])|(go_at_call 37;refine(fd _ _ xaa xaa).mono ?_;rintro e af ⟨rfl,rfl⟩;simp only[show iB 13=1 from rfl]));go_ret;exact⟨rfl,rfl⟩):Zp:=h
theorem xej(h:Zp:=by
 clear bw;go_enter func39,ntmps39;go_wp2_with (first|(go_at_call 61;refine(fR _ _ xaa xaa).mono ?_;rintro e af ⟨rfl,rfl⟩;simp only[show fF 6=true from rfl])|(go_at_call 37;refine(fd _ _ xaa xaa).mono ?_;rintro e af ⟨rfl,rfl⟩;simp only[show iB 6=1 from rfl]));go_ret;exact⟨rfl,rfl⟩):Zp:=h
theorem xek(h:Zp:=by
 rcases List.mem_append.1 aJ with c|c
 ·exact f.dg.k u c
 simp only[List.mem_singleton]at c;subst c;exact aL):Zp:=h
theorem xel(h:Zp:=by
 go_region_with (first
  |(go_at_call 34;refine yai (gQ _ _ _ _ _ _) ?_;rintro e aX ⟨rfl,aM⟩;have J:=(y.o.keep ((eF af).trans aM)).c1)
  |(go_at_call 96;refine yai (ce.o _ (bN.o.trans ((eF af).trans aM))) ?_;rintro e bm ⟨⟨x,rfl⟩,bi⟩))
 all_goals (go_wp2_with fail;go_ret;rw[aa.o];exact bi.o)):Zp:=h
theorem xem(h:Zp:=by
 have B:=E1.1;obtain⟨aN,ce,E2⟩:=ag (1) xaa (bi);have R:=E2.1;rcases uH s0 with⟨bj,a6⟩|⟨bj,a6⟩
 ·exact xla
 exact xhi):Zp:=h
theorem xen(h:Zp:=by
 go_wp2_with fail;go_roundw
 case rel=>exact⟨i+1,by omega,by go_num,aG⟩
 case measure=>simp[intOf];omega):Zp:=h
theorem xeo(h:Zp:=by
 go_region_with (first
  |(go_at_call 34;refine yai (gQ _ _ _ _ _ _) ?_;rintro e aX ⟨rfl,aM⟩;have J:=(y.o.keep ((eF af).trans aM)).c1)
  |(go_at_call 96;refine yai (bM.o _ ((eF af).trans aM)) ?_;rintro e bm ⟨⟨x,rfl⟩,bi⟩))
 all_goals (go_wp2_with fail;go_ret;exact bi.o)):Zp:=h
theorem xep(h:Zp:=by
 go_region_with (first|(go_at_call 44;refine(bO.o _).mono ?_;rintro e af ⟨rfl,rfl⟩)|(go_at_call 73;refine(ap.o _).mono ?_;rintro e af ⟨rfl,rfl⟩)|(go_at_call 72;refine(aT.o 1).mono ?_;rintro e af ⟨rfl,O⟩))
 all_goals
  go_wp2_with fail
  go_meet
  exact⟨rfl,(eM 0 0 _ 1).trans O⟩):Zp:=h
theorem xeq(h:Zp:=by
 generalize (⟨(gF x).toArray⟩:ByteArray)=h at HD bp⊢;exact xdg):Zp:=h
theorem xer(h:Zp:=by
 go_wp2;go_roundw
 case rel=>exact⟨k+1,by omega,by go_num,R1,R2⟩
 case measure=>simp[intOf];omega):Zp:=h
theorem xes(h:Zp:=by
 go_wp2_with (go_at_call 125;refine yai f.o ?_;rintro e af ⟨rfl,F⟩);exact xgb):Zp:=h
theorem xet(h:Zp:=by
 rcases zV q with⟨B,_⟩|⟨B,R⟩
 ·exact xka
 exact xgv):Zp:=h
theorem xeu(h:Zp:=by
 go_wp2;exact xdk):Zp:=h
theorem xev(h:Zp:=by
 have c:∀o,(fB aB _ _ _ _).cell? _=aB.cell? ⟨_,o,none⟩:=λo=>K.cell bz (by simp_all);have co:∀o,(fB aB _ _ _ _).frozen? _=aB.frozen? ⟨_,o,none⟩:=λo=>K.frozen bz (by simp_all);exact⟨yaj bz K.size,by grind,by grind,by grind,by grind,by grind,by grind⟩):Zp:=h
theorem xew(h:Zp:=by
 have a:r.testBit i=false:=Nat.testBit_lt_two_pow (yaj hb (mJ xaa));have b:(2 ^ 63+r).testBit i=false:=Nat.testBit_lt_two_pow (yaj (show 2 ^ 63+r<2 ^ 64 by omega) (mJ xaa));rw[a,b,show decide _=false from yax xaa];rfl):Zp:=h
theorem xex(h:Zp:=by
 go_enter func62,ntmps62;go_wp2;go_ret;exact⟨_,rfl,iE _ _ _ _,ik _ _ _ _,_,rfl⟩):Zp:=h
theorem xey(h:Zp:=by
 go_wp2_with fail;go_roundw
 case rel=>exact⟨trivial,j+1,by omega,by go_num,by rw[aa.o],by rw[aa.o]⟩
 case measure=>simp[intOf];omega):Zp:=h
theorem xez(h:Zp:=by
 clear a7;go_enter func16,ntmps16;go_wp2_with fail;generalize g:(w.alloc (eY a1 Y aa (some ⟨ag,bS,none⟩) U c2 a3 Z c3)).alloc (eK 0 len A I C K)=m at bN ba aO aR bD d1 d2 d3 d4 d5⊢;clear g;go_quiet (fail)
 go_wp2;go_ret;exact⟨rfl,bN.o.trans (eM 0 0 _ _)⟩):Zp:=h
theorem xfa(h:Zp:=by
 go_ret;rw[aa.o];exact⟨rfl,F.c5,F.c6,(Mv.of bN.o).bad F.chg⟩):Zp:=h
theorem xfb(h:Zp:=by
 refine⟨R.bad ⟨ap.os,ap.tape,ap.output,ap.size,λi hi hn=>ap.block i hi (λc=>hn (.inr c))⟩,λb hb=>?_⟩;rcases hb with c|c
 ·exact R.new b (.inl c)
 exact xis):Zp:=h
theorem xfc(h:Zp:=by
 go_wp2_with (go_at_call 93;refine yai av.o ?_;rintro e af ⟨rfl,bi⟩);go_ret;rw[HR.o];exact TrO.back HK.o ⟨rfl,bi⟩):Zp:=h
theorem xfd(h:Zp:=by
 go_roundw
 case rel=>exact⟨k+1,by omega,by go_num,R3⟩
 case measure=>simp[intOf];omega):Zp:=h
theorem xfe(h:Zp:=by
 go_enter func49,ntmps49;go_wp2;go_ret;exact⟨rfl,rfl⟩):Zp:=h
theorem xff(h:Zp:=by
 obtain⟨ba,aO,_,_,a0,cz⟩:=ad.o W' ap;have F:=(aB.o.keep ap).lt;have dp:=yaj ao ap.size;exact⟨(b3.cell (p:=⟨bL,1,none⟩) F cw).trans aO,(b3.cell (p:=⟨aS,of,none⟩) dp b8).trans a0,(b3.cell (p:=⟨aS,of+1,none⟩) dp b8).trans cz⟩):Zp:=h
theorem xfg(h:Zp:=by
 go_wp2_with (first|(go_at_call 37;refine yai (bi.o _) ?_;rintro e ck ⟨rfl,rfl⟩)|fail);clear aU bM aZ be bz bE bl;go_roundw
 case rel=>exact⟨i-1,j+1,by go_num,hR fT.o,hR fT.o,R2⟩
 case measure=>simp[intOf];omega):Zp:=h
theorem xfh(h:Zp:=by
 clear ba;exact xat):Zp:=h
theorem xfi(h:Zp:=by
 rw[ab]at aL;subst aL;rcases bg with c|c
 ·exact G _ O c
 have:=(eI av O).2;omega):Zp:=h
theorem xfj(h:Zp:=by
 intro v' bo bB bw f;obtain⟨G,cap,rfl,N,aA⟩:=yI bB f;have aa:V _:=mx bw (λk O=>hR ((by simpa[Value.ownBlock] using O))) q.o yad;have R2:V _:=bB;clear bB bw f;go_wp2;go_ret;exact⟨G,_,rfl,N,aA,R2.o,aa.o⟩):Zp:=h
theorem xfk(h:Zp:=by
 clear f ah hn bH e;generalize fe _=cv at bv a6 ai;go_enter func129,ntmps129;go_wp2_with fail;refine yai bv.o ?_;rintro e af ⟨rfl,ao⟩;have aa:V _:=Kept.trans HK.o ao;clear ao bv;go_wp2;go_ret;exact⟨rfl,aa.o⟩):Zp:=h
theorem xfl(h:Zp:=by
 rcases ad.row with c|⟨r,c,ay⟩
 ·exact .inl c.symm
 cases c;exact .inr ay):Zp:=h
theorem xfm(h:Zp:=by
 have:=h.step i aF (rnm (fh p vs i).2 (vs.getD i hM));rw[sK f.l1 (hU HL.o.1 aF)]at this;exact this):Zp:=h
theorem xfn(h:Zp:=by
 have:=kX (fh p vs i).2 (gi p (fh p vs i).1 (rnm (fh p vs i).2 (vs.getD i hM)) i);rw[f.l2]at this;exact this):Zp:=h
theorem xfo(h:Zp:=by
 go_enter func72,ntmps72;go_wp2;go_quiet ((first|(go_at_call 44;exact Calls.quiet_of_same (gH _ _))|(go_at_call 46;exact Calls.quiet_of_same (iz _ _ _))))
 go_wp2;go_ret;exact⟨rfl,(ez _ _ _ _).trans (eM _ _ _ _)⟩):Zp:=h
theorem xfp(h:Zp:=by
 rintro e J ⟨rfl,rfl⟩;go_wp2;go_ret;exact⟨_,rfl,rfl,by omega,0,rfl⟩):Zp:=h
theorem xfq(h:Zp:=by
 subst aL;have f:(Value.slice a2 (vs0++M.1).length cap).ownBlock≠some (w.heap.size+1):=hU h.g.row h.n1
 exact⟨_,_,_,rfl,eJ (eJ (eJ (e8 h.g.own k) f) f) f,h.g.row,(h.s.keepQ k).new (ft _ _ _ _ _) xaa⟩):Zp:=h
theorem xfr(h:Zp:=by
 clear O;go_wp2;go_ret;exact⟨_,rfl,(ik _ _ _ _).trans bx.o.symm,iE _ _ _ _,B.drw _,U.trans (eM _ _ _ _)⟩):Zp:=h
theorem xfs(h:Zp:=by
 rcases hb with c|c|c|c|c
 ·exact .inl (.inl c)
 ·exact .inr (yan f (eI aC c).1)
 ·exact .inr (yan f (eI a0 c).1)
 ·exact .inr (yan f (eI ai c).1)
 exact .inl (.inr (.inr (.inr (.inr c))))):Zp:=h
theorem xft(h:Zp:=by
 unfold MfK;intros;rename_i aT C;obtain⟨bh,aU,aY,HR⟩:=C;go_wp2_with fail;exact yay (by simp[results,results146,go_sem,bh,aU,aY]) rfl (MS.finR ad.o HR.o (by rw[g.o.1,p.o.1,f.o.1]<;>simp))):Zp:=h
theorem xfu(h:Zp:=by
 have:=gX S.1 (rnm S.2 (vs.getD i hM));rw[E.l1]at this;exact this):Zp:=h
theorem xfv(h:Zp:=by
 have B:∀g,(Value.slice _ _ _).ownBlock=some g->aa≠some g:=λg aW=>by rw[<-h.g.row];exact G g aW
 refine⟨B,λc=>?_,λg aW=>?_⟩
 ·have:=(eI av c).1;have:=h.hb;omega
 rw[aC];exact f g (eI av aW).2 (B g aW)):Zp:=h
theorem xfw(h:Zp:=by
 go_wp2_with fail;exact xfd):Zp:=h
theorem xfx(h:Zp:=by
 go_upto_region 23 with fail;go_region
 all_goals (
  go_wp2_with fail
  refine yay (v:=.tuple #[vT,hI c,hI p]) (by simp[results,results29,go_sem,bM,aZ,aY]) rfl ?_
  rw[aP.o]
  exact⟨rfl,aa.o⟩)):Zp:=h
theorem xfy(h:Zp:=by
 go_enter func111,ntmps111;go_wp2;go_ret2
 exact⟨rfl,rfl⟩):Zp:=h
theorem xfz(h:Zp:=by
 go_enter func124,ntmps124;go_wp2;go_ret;exact⟨rfl,rfl⟩):Zp:=h
theorem xga(h:Zp:=by
 rw[List.getElem?_take_of_lt xaa]at this;rw[this,List.getElem?_map,yal (by omega:j<xs.length)];simp[List.getD_eq_getElem?_getD,List.getElem?_eq_getElem (by omega:j<xs.length)]):Zp:=h
theorem xgb(h:Zp:=by
 go_ret;rw[HR.o];exact⟨rfl,F.c5,F.c6,(Mv.of HK.o).bad F.chg⟩):Zp:=h
theorem xgc(h:Zp:=by
 clear h bB;go_enter func5,ntmps5;go_wp2_with fail;refine yai o.o ?_;rintro e aB ⟨rfl,an⟩;obtain⟨_,ba,aO,aR⟩:=aS.keep an;clear aS;go_wp2;go_ret;exact⟨rfl,aH.o.trans an⟩):Zp:=h
theorem xgd(h:Zp:=by
 have B:=bT.o;rw[yao (by rw[aA.o];decide),bV.o]at B;exact hL B):Zp:=h
theorem xge(h:Zp:=by
 go_wp2_with fail;refine(jp _ _ _ _ _ _ _ C).mono ?_;rintro e af ⟨rfl,R,z,bR⟩;clear bR;go_wp2;go_roundw
 case rel=>exact⟨j+1,by omega,by go_num,rfl,R,aS.trans z⟩
 case measure=>simp[intOf];omega):Zp:=h
theorem xgf(h:Zp:=by
 go_enter func39,ntmps39;go_wp2;go_ret;exact⟨rfl,rfl⟩):Zp:=h
theorem xgg(h:Zp:=by
 have:=a7.o;rw[List.drop_of_length_le (hW HL.o.1),List.append_nil]at this;exact this):Zp:=h
theorem xgh(h:Zp:=by
 rw[hK c,hK c];exact congrArg _ (gL _ (gO G k) (gO hb k))):Zp:=h
theorem xgi(h:Zp:=by
 have aa:V _:=bX.o.miss q (by rw[m];intro c;rw[c]at aq;simp at aq);exact xdx):Zp:=h
theorem xgj(h:Zp:=by
 have:=G.o;rw[Nat.sub_self,List.replicate_zero,List.append_nil]at this;exact this.isAt f.l2):Zp:=h
theorem xgk(h:Zp:=by
 rw[List.drop_succ_cons,List.drop_succ_cons,List.drop_zero,show ts++[c,n,q]=(ts++c::[n])++[q] by simp,List.take_append_of_le_length yaf,yao yaf]):Zp:=h
theorem xgl(h:Zp:=by
 refine Chg.new (Chg.new HK.o.chg bw.o (λb hb c=>?_)) (K.chg1 (S:=λb=>b=w.heap.size+1) rfl) (λb hb c=>by omega);rcases c with c|c|c
 ·exact .inl c
 ·exact .inr c
 exact c.elim):Zp:=h
theorem xgm(h:Zp:=by
 rw[yah,yar yad,Nat.sub_self];rfl):Zp:=h
theorem xgn(h:Zp:=by
 have:=R2.o;rw[<-bp.o,<-f.o]at this;rw[List.range_succ,List.map_append];exact this):Zp:=h
theorem xgo(h:Zp:=by
 rw[yah,yas O,<-yah]):Zp:=h
theorem xgp(h:Zp:=by
 have aa:V _:=bX.o.hit q (by rw[m];simpa using aq);exact xdx):Zp:=h
theorem xgq(h:Zp:=by
 go_roundw
 case rel=>
  exact xii
 case measure=>simp[intOf];omega):Zp:=h
theorem xgr(h:Zp:=by
 intro g cap J B R h3 _;have e:ba.length+1=(ba++[y]).length:=by rw[yak];rfl
 rw[e]at B⊢;refine h g cap _ J rfl ?_ (i7 R) h3;rw[List.map_append];exact B):Zp:=h
theorem xgs(h:Zp:=by
 obtain⟨_,rfl⟩:=rE an q;clear o bQ C q bf ba aO aR u an p;exact xen):Zp:=h
theorem xgt(h:Zp:=by
 have bO:(b:Int)<9223372036854775808:=ad;have b9:decide (9223372036854775808<=(b:Int))=false:=yax xaa;clear ad bO;go_wp2;go_ret;exact⟨rfl,rfl⟩):Zp:=h
theorem xgu(h:Zp:=by
 have bO:9223372036854775808<=(b:Int):=ad;have b9:decide (9223372036854775808<=(b:Int))=true:=decide_eq_true xaa;clear ad bO;go_wp2;go_ret;exact⟨rfl,rfl⟩):Zp:=h
theorem xgv(h:Zp:=by
 refine⟨?_,R⟩;rcases B with⟨a1,a2⟩|⟨a1,a2,a3⟩<;>rcases au with⟨N,aA⟩|⟨N,aA,ab⟩
 ·rw[a2,aA]
 ·exact absurd N a1
 ·exact absurd a1 N
 rw[a3,ab]):Zp:=h
theorem xgw(h:Zp:=by
 have:=cr.o.keep K (hR a5.o);unfold eqM;rw[HL.o.1];exact this):Zp:=h
theorem xgx(h:Zp:=by
 have:=ai.o.keep K (hR a5.o);unfold eqM;rw[HL.o.1];exact this):Zp:=h
theorem xgy(h:Zp:=by
 go_enter func100,ntmps100;go_wp2_with fail;refine(oN _ _).mono ?_;exact xfp):Zp:=h
theorem xgz(h:Zp:=by
 go_enter func109,ntmps109;go_wp2;go_ret;exact⟨rfl,ez _ _ _ _⟩):Zp:=h
theorem xha(h:Zp:=by
 clear am;go_wp2_with fail;go_quiet (fail)
 go_wp2;go_ret;exact⟨by rw[R1.o,aa.o];rfl,(bN.o.trans (Drawn.kept HD.o 0 0)).trans (eM 0 0 _ _)⟩):Zp:=h
theorem xhb(h:Zp:=by
 rintro (c|c|c|c|c)
 ·have:=h.lt;omega
 ·have:=(eI h.r1 c).2;omega
 ·have:=(eI h.r2 c).2;omega
 ·have:=(eI h.r3 c).2;omega
 have:=(eI h.r4 c).2;omega):Zp:=h
theorem xhc(h:Zp:=by
 rw[e];go_enter func118,ntmps118;go_wp2;go_ret;exact⟨rfl,rfl⟩):Zp:=h
theorem xhd(h:Zp:=by
 go_enter func72,ntmps72;go_wp2;go_ret;exact⟨rfl,ez _ _ _ _⟩):Zp:=h
theorem xhe(h:Zp:=by
 rw[hK c];right;exact e _ (gI (by rw[wO xaa];omega)) xaa):Zp:=h
theorem xhf(h:Zp:=by
 refine⟨?_,?_,?_,?_,?_,?_⟩;all_goals first|(go_simp;done)|(simp;done)):Zp:=h
theorem xhg(h:Zp:=by
 rw[show 0x7ff0000000000000=9218868437227405312 from rfl,e];refine⟨?_,EO xaa⟩;rw[show f64.read _=_ from nU xaa xaa];rfl):Zp:=h
theorem xhh(h:Zp:=by
 rw[yah,yal ah]at h;simp only[Option.getD_some]at h;rw[yat ah];grind):Zp:=h
theorem xhi(h:Zp:=by
 rcases K with K|K<;>exact⟨⟨#[106,118,112,40]⟩++ax++⟨#[44,32]⟩++s0++⟨#[44,32]⟩++aN++⟨#[41]⟩,ce,gu WkS az λz X W aw=>WkE⟩):Zp:=h
theorem xhj(h:Zp:=by
 rcases hb with c|c
 ·exact xjc
 exact C.new b (.inr c)):Zp:=h
theorem xhk(h:Zp:=by
 go_enter func114,ntmps114;go_wp2;go_ret;exact⟨rfl,rfl⟩):Zp:=h
theorem xhl(h:Zp:=by
 have:=bu;rw[t.o.1,lY _ _ (hU f.l2 h)]at this;exact this):Zp:=h
theorem xhm(h:Zp:=by
 go_wp2_with fail;go_quiet ((go_at_call 46;exact Calls.quiet_of_same (bB.o _)))
 go_wp2;go_ret;exact⟨rfl,aV.o.trans (eM 0 0 _ _)⟩):Zp:=h
theorem xhn(h:Zp:=by
 go_wp2_with (go_at_call 93;refine yai cJ.o ?_;rintro e aX ⟨rfl,bi⟩);go_ret;rw[HR.o];exact TrO.after cB.o ⟨rfl,bi⟩):Zp:=h
theorem xho(h:Zp:=by
 go_roundw
 case rel=>
  exact xjz
 case measure=>simp[intOf];omega):Zp:=h
theorem xhp(h:Zp:=by
 go_wp2;go_roundw
 case rel=>exact⟨j+1,by omega,by have:=S.o;congr 1<;>omega,R1,R2⟩
 case measure=>have:=S.o;simp[intOf]<;>omega):Zp:=h
theorem xhq(h:Zp:=by
 go_wp2_with (go_at_call 93;refine yai av.o ?_;rintro e aX ⟨rfl,bi⟩);go_ret;rw[HR.o];exact TrO.back bN.o ⟨rfl,bi⟩):Zp:=h
theorem xhr(h:Zp:=by
 go_enter func44,ntmps44;go_wp2;go_ret;exact⟨rfl,rfl⟩):Zp:=h
theorem xhs(h:Zp:=by
 go_enter func46,ntmps46;go_wp2;go_ret;exact⟨rfl,rfl⟩):Zp:=h
theorem xht(h:Zp:=by
 have e:b=g:=by simpa[Value.ownBlock] using h.symm
 subst e;rcases aW with c|c
 ·exact(aS _ c).2
 have:=f.rs.sz;have:=f.bx.sz;omega):Zp:=h
theorem xhu(h:Zp:=by
 rcases hb with c|c|c|c|c
 ·subst c;exact B.lt
 ·exact(eI B.r1 c).2
 ·exact(eI B.r2 c).2
 ·exact(eI B.r3 c).2
 exact(eI B.r4 c).2):Zp:=h
theorem xhv(h:Zp:=by
 rw[bV]at bD;go_wp2;go_roundw
 case rel=>exact⟨q+1,by omega,hX bD.o,by go_num,R1,R2⟩
 case measure=>simp[intOf];omega):Zp:=h
theorem xhw(h:Zp:=by
 clear t q C;go_wp2_with fail;refine yai HD.o ?_;rintro e J ⟨rfl,rfl⟩;go_wp2;go_ret2
 exact⟨0,2,rfl,aa.o,bx⟩):Zp:=h
theorem xhx(h:Zp:=by
 show inB ins xss=false;unfold inB;rw[HL.o.1,lX (p:=λi=>((xss.getD i []).length:Int)==ins.getD i 0) aF au,Bool.and_false]):Zp:=h
theorem xhy(h:Zp:=by
 rcases K with K|K<;>exact⟨⟨#[103,114,97,100,40]⟩++ax++⟨#[44,32]⟩++s0++⟨#[41]⟩,bi,gu WkS az λz X W aw=>WkE⟩):Zp:=h
theorem xhz(h:Zp:=by
 have:=i.2.2;rw[ay]at this;exact yan this xaa):Zp:=h
theorem xia(h:Zp:=by
 obtain⟨g,c,e,_,aW,_,a7⟩:=ng h.g.own hn rfl;injection e with ae a9 ak;subst ae;exact⟨g,rfl,h.g.row.symm,aW,a7.at_⟩):Zp:=h
theorem xib(h:Zp:=by
 have B:=a7.o;rw[show k=m by omega]at B;show inB ins xss=true;unfold inB;rw[HL.o.1,HL.o.2,B,decide_eq_true rfl];rfl):Zp:=h
theorem xic(h:Zp:=by
 clear bf bH;go_wp2_with fail;go_roundw
 case rel=>exact⟨j+1,by omega,by go_num,bX,aa⟩
 case measure=>simp[intOf];omega):Zp:=h
theorem xid(h:Zp:=by
 obtain rfl:k=n:=xaa;go_wp2;go_ret;exact⟨rfl,aH.o⟩):Zp:=h
theorem xie(h:Zp:=by
 clear o bQ C;go_wp2_with fail;go_roundw
 case rel=>exact⟨i+1,by omega,by go_num,aH⟩
 case measure=>simp[intOf];omega):Zp:=h
theorem xif(h:Zp:=by
 go_wp2;go_roundw
 case rel=>exact⟨j+1,_,_,by omega,by go_num,rfl,by go_num,aa,m⟩
 case measure=>simp[intOf];omega):Zp:=h
theorem xig(h:Zp:=by
 have x:=aw.o j ai;go_wp2;go_round
 case rel=>exact⟨j+1,by omega,rfl,by go_num⟩
 case measure=>simp[intOf];omega):Zp:=h
theorem xih(h:Zp:=by
 go_wp2_with (go_at_call 93;refine yai G.o ?_;rintro e af ⟨rfl,bi⟩);go_ret;rw[HR.o];exact⟨rfl,bi⟩):Zp:=h
theorem xii(h:Zp:=by
 obtain⟨S',f,bI,bJ,cb,ci⟩:=h.o v aG cap' _ cd aX aF bl.o;exact⟨ao+1,S',f,by omega,by go_num,bI,bJ,cb,ci⟩):Zp:=h
theorem xij(h:Zp:=by
 clear hb;go_wp2_with fail;go_roundw
 case rel=>exact⟨k+1,by omega,by go_num,HR⟩
 case measure=>simp[intOf];omega):Zp:=h
theorem xik(h:Zp:=by
 go_wp2;go_roundw
 case rel=>exact⟨trivial,j,by omega,by go_num,HR⟩
 case measure=>simp[intOf];have:=a5.o;omega):Zp:=h
theorem xil(h:Zp:=by
 have:=h o av;rw[yah,yas xaa,<-yah]):Zp:=h
theorem xim(h:Zp:=by
 obtain⟨b,n,c,zs,B,R,h3,a8⟩:=f;exact⟨b,n,c,zs,B,R,(h3.setS ai aJ v).mono yad xac,a8⟩):Zp:=h
theorem xin(h:Zp:=by
 go_wp2_with (go_at_call 127;refine yai av.o ?_;rintro e bm ⟨⟨x,rfl⟩,bi⟩);go_ret;exact bi.o):Zp:=h
theorem xio(h:Zp:=by
 go_wp2;go_roundw
 case rel=>exact⟨j+1,by omega,by have:=bX.o;go_num,R1⟩
 case measure=>simp[intOf];omega):Zp:=h
theorem xip(h:Zp:=by
 clear au a7;exact xeu):Zp:=h
theorem xiq(h:Zp:=by
 rw[eO _ _ _ _ _ _ (.inl (Ne.symm h)),eO _ _ _ _ _ _ (.inl (Ne.symm h)),eO _ _ _ _ _ _ (.inl (Ne.symm h))]):Zp:=h
theorem xir(h:Zp:=by
 intro j u aJ;cases j with
 |zero=>cases aJ;obtain⟨b,o,m⟩:=aw;simpa[Addr.add] using f
 |succ j=>cases aJ):Zp:=h
theorem xis(h:Zp:=by
 rw[ab]at c;subst c;rcases bq with e|e
 ·exact R.new g9 (.inr e)
 exact .inr (hR R.chg.size)):Zp:=h
theorem xit(h:Zp:=by
 unfold vd;rw[yah,yah,List.getElem?_map];cases vs[j]?<;>rfl):Zp:=h
theorem xiu(h:Zp:=by
 have:=R;unfold inB at this;simp only[Bool.and_eq_true,decide_eq_true_eq,ae,s.len]at this;exact this.1):Zp:=h
theorem xiv(h:Zp:=by
 go_wp2;go_roundw
 case rel=>exact⟨i+1,_,Vs,by omega,by go_num,aa⟩
 case measure=>simp[intOf];omega):Zp:=h
theorem xiw(h:Zp:=by
 go_wp2;go_roundw
 case rel=>exact⟨q+1,by omega,by go_num,R1,R2⟩
 case measure=>simp[intOf];omega):Zp:=h
theorem xix(h:Zp:=by
 go_roundw
 case rel=>exact⟨trivial,j+1,by omega,by go_num,aa⟩
 case measure=>simp[intOf];omega):Zp:=h
theorem xiy(h:Zp:=by
 obtain⟨⟨bc,bd,bg,Z,B,R,h3⟩,a8⟩:=h;exact⟨⟨_,_,_,_,B.keep k,R.keep k,h3⟩,e8 a8 k⟩):Zp:=h
theorem xiz(h:Zp:=by
 go_wp2;go_roundw
 case rel=>exact⟨k+1,by omega,by go_num,R1⟩
 case measure=>simp[intOf];omega):Zp:=h
theorem xja(h:Zp:=by
 rw[yah,yal hi]at h;grind [List.set_getElem_self]):Zp:=h
theorem xjb(h:Zp:=by
 go_wp2_with fail;refine wp_loop_rounds 1 ?_;rw[rounds_succ];go_wp2;go_ret;exact⟨rfl,rfl⟩):Zp:=h
theorem xjc(h:Zp:=by
 rcases bp.new b c with d|d
 ·exact C.new b (.inl d)
 exact .inr (yan C.chg.size d)):Zp:=h
theorem xjd(h:Zp:=by
 rw[Nat.testBit_two_pow_add_gt hi,show decide _=false from yax xaa];simp):Zp:=h
theorem xje(h:Zp:=by
 go_wp2_with fail;refine yai HD.o ?_;rintro e J ⟨rfl,rfl⟩;go_wp2;grind [intOf]):Zp:=h
theorem xjf(h:Zp:=by
 have:=((aj.nb i hi).mv aP).weak (M':=Mst P bc bd bg Z) (λb hb=>.inl hb);rw[ag];exact this):Zp:=h
theorem xjg(h:Zp:=by
 rw[ae,a9,Bool.and_eq_true];exact⟨decide_eq_true xaa,decide_eq_true xaa⟩):Zp:=h
theorem xjh(h:Zp:=by
 subst ak;obtain⟨aE,cE,aJ⟩:=aw.o.form;subst aJ;go_upto_region 30 with fail;exact WkM):Zp:=h
theorem xji(h:Zp:=by
 rw[yah,yas h,<-yah]):Zp:=h
theorem xjj(h:Zp:=by
 clear ae bV;exact xgz):Zp:=h
theorem xjk(h:Zp:=by
 go_wp2_with fail;go_ret;exact⟨none,0,rfl,yav _ _ _ _,hQ⟩):Zp:=h
theorem xjl(h:Zp:=by
 have aN:=t.o o Q;have bC:=iu (List.all_eq_true.1 bT.o o (List.mem_range.2 Q));omega):Zp:=h
theorem xjm(h:Zp:=by
 rintro e af ⟨aG,cap',rfl,own,s⟩;rw[h.g.row]at s;exact⟨_,_,rfl,h.next k own s⟩):Zp:=h
theorem xjn(h:Zp:=by
 rw[eO _ _ _ _ _ _ (.inl cu),eO _ _ _ _ _ _ (.inl cu),eO _ _ _ _ _ _ (.inl cu)];exact p):Zp:=h
theorem xjo(h:Zp:=by
 go_enter func23,ntmps23;go_wp2
 all_goals
  go_ret
  exact⟨rfl,ez _ _ _ _⟩):Zp:=h
theorem xjp(h:Zp:=by
 go_wp2;go_ret;rw[o.o];exact⟨_,rfl,bQ.o,bh,HR.o.drw _,aS.trans (eM _ _ _ _)⟩):Zp:=h
theorem xjq(h:Zp:=by
 left;have:=List.findIdx_le_length (p:=(ij · v)) (xs:=S.1);rw[E.l1]at this bb;omega):Zp:=h
theorem xjr(h:Zp:=by
 simp only[List.append_nil];exact⟨_,_,_,rfl,e8 h k,rfl,(StQ.refl _ _ w).keepQ k⟩):Zp:=h
theorem xjs(h:Zp:=by
 rw[yah,yal h];exact List.getElem_mem _):Zp:=h
theorem xjt(h:Zp:=by
 split
 ·exact .err xab
 split
 ·exact .err xab
 exact kQ _ _ _):Zp:=h
theorem xju(h:Zp:=by
 clear aj B R;exact xfz):Zp:=h
theorem xjv(h:Zp:=by
 have:=a7.o;rw[yao (hW bv.o)]at this;exact this):Zp:=h
theorem xjw(h:Zp:=by
 go_enter func21,ntmps21;go_wp2;go_ret;exact⟨hX HR.o,rfl⟩):Zp:=h
theorem xjx(h:Zp:=by
 have:=a7.o;rw[yao (hW j.o)]at this;exact this):Zp:=h
theorem xjy(h:Zp:=by
 have:(H.toList.take (n*1))[k]? =(xs.map (Value.int .i64))[k]?:=by rw[cn]
 grind):Zp:=h
theorem xjz(h:Zp:=by
 refine⟨k+1,by omega,by go_num,?_,?_⟩
 ·rw[ce.o]
 rw[ce.o];exact p.o):Zp:=h
theorem xka(h:Zp:=by
 exfalso;rcases au with⟨h3,_⟩|⟨_,h3,_⟩
 ·exact h3 B.1
 have:=B.2;omega):Zp:=h
theorem xkb(h:Zp:=by
 unfold val;rw[Nat.pow_zero,Nat.mul_one,Nat.mul_assoc,Nat.pow_sub_mul_pow 2 h]):Zp:=h
theorem xkc(h:Zp:=by
 go_enter func62,ntmps62;go_wp2;go_ret;exact⟨_,rfl,bV,rfl,0,rfl⟩):Zp:=h
theorem xkd(h:Zp:=by
 clear ad l;go_enter func99,ntmps99;go_wp2;go_ret;exact⟨rfl,rfl⟩):Zp:=h
theorem xke(h:Zp:=by
 go_enter func3,ntmps3;go_wp2;go_ret;exact⟨rfl,hQ⟩):Zp:=h
theorem xkf(h:Zp:=by
 refine⟨?_,?_,?_,?_,?_,?_,?_⟩;all_goals first|(go_simp;done)|(simp;done)):Zp:=h
theorem xkg(h:Zp:=by
 clear bp;exact xfe):Zp:=h
theorem xkh(h:Zp:=by
 refine wp_mono h ?_;intro e af J aq;cases e<;>first|exact aq|exact aq.elim):Zp:=h
theorem xki(h:Zp:=by
 refine(ap.block b xaa xaa).trans ?_;exact f.k0.block b hb hn):Zp:=h
theorem xkj(h:Zp:=by
 rw[hK c];right;exact e _ (jm (by rw[wO xaa];omega)) xaa):Zp:=h
theorem xkk(h:Zp:=by
 rw[e];go_enter func91,ntmps91;go_wp2;go_ret;exact⟨rfl,rfl⟩):Zp:=h
theorem xkl(h:Zp:=by
 cases e;have e:=a2.len;subst e;exact⟨zs,λ_=>⟨b,c,B,a1,a2,a3⟩⟩):Zp:=h
theorem xkm(h:Zp:=by
 go_enter func133,ntmps133;go_wp2;go_ret;exact⟨rfl,rfl⟩):Zp:=h
theorem xkn(h:Zp:=by
 go_wp2;go_ret;exact⟨_,rfl,by rw[bb,show k=10 by omega],ah,_,rfl⟩):Zp:=h
theorem xko(h:Zp:=by
 rintro e J ⟨rfl,rfl⟩;go_wp2;go_ret;exact⟨_,rfl,rfl,au,0,rfl⟩):Zp:=h
theorem xkp(h:Zp:=by
 go_wp2_with fail;go_meet;exact⟨_,_,r,_,_,_,rfl,rfl,rfl,cH,R2,R3⟩):Zp:=h
theorem xkq(h:Zp:=by
 have br:=hb.o;have ag:=aI.o;have aD:=aT.o;constructor<;>omega):Zp:=h
theorem xkr(h:Zp:=by
 clear am;go_wp2;go_ret;exact⟨hX aa.o,Kept.refl _ _ _⟩):Zp:=h
theorem xks(h:Zp:=by
 clear aK bb a7 b4;go_wp2;go_ret;exact⟨hX aa.o,R2.o⟩):Zp:=h
theorem xkt(h:Zp:=by
 go_enter func73,ntmps73;go_wp2;go_ret;exact⟨rfl,rfl⟩):Zp:=h
theorem xku(h:Zp:=by
 intro i hi c;by_cases e:i=k
 ·grind
 exact h.digit i xaa c):Zp:=h
theorem xkv(h:Zp:=by
 unfold inB;rw[HL.o.1,HL.o.2,yax ag,Bool.false_and]):Zp:=h
theorem xkw(h:Zp:=by
 rintro e J ⟨rfl,rfl⟩;go_wp2;go_ret;exact⟨rfl,ez _ _ _ _⟩):Zp:=h
theorem xkx(h:Zp:=by
 rw[yat ah,List.mem_append];simp_all):Zp:=h
theorem xky(h:Zp:=by
 go_wp2_with fail;go_meet;exact⟨_,_,r,_,_,_,rfl,rfl,cH,R2,R3⟩):Zp:=h
theorem xkz(h:Zp:=by
 rw[yah,yal bb];rfl):Zp:=h
theorem xla(h:Zp:=by
 rcases K with K|K<;>exact⟨ax,ce,gu WkS az λz X W aw=>WkE⟩):Zp:=h
theorem xlb(h:Zp:=by
 have:=ff.o k co;exact⟨(fld v k).toNat,by omega,by omega⟩):Zp:=h
theorem xlc(h:Zp:=by
 obtain⟨g,e,B,R,h3⟩:=X.o aj;exact⟨g,e,B,R.keep aM,h3⟩):Zp:=h
theorem xld(h:Zp:=by
 rw[yal O];exact h _ (List.getElem_mem _)):Zp:=h
theorem xle(h:Zp:=by
 rcases bp.new b c with d|d
 ·grind
 have:=(eI ad hb).2;omega):Zp:=h
theorem xlf(h:Zp:=by
 rcases r with⟨c,p⟩|x
 ·exact .err (h c p rfl)
 exact .ok):Zp:=h
theorem qaa(h:Zp:=by
 have N:V _:=Dy.box f C hP H;have bD:=fK C.ys i;have cg:=fK C.ys (ni bs i);have v:V (S.length=vs.length):=by show _=_;rw[<-ad,List.length_map]
 have HSV:V _:=ad;have s:V _:=O;clear f C H ad O;go_enter func52,ntmps52;go_wp2_with fail;generalize (w.alloc (.cells #[.slice a1 ins.length c1,.slice a2 vs.length c2,.slice a3 outs.length c3] 26)).alloc fp=W0 at N⊢;refine yai N.o.next ?_;rintro e aD ⟨rfl,(an:V _)⟩;clear N;go_wp2_with fail;refine yai an.o.next ?_;rintro e W2 ⟨rfl,(HD:V _)⟩;clear an;have aj:0<vs.length:=hR v.o
 have h:nv bs (ni bs i)%vs.length<vs.length:=Nat.mod_lt _ aj;have t:(nv bs (ni bs i):Int).tmod (vs.length:Int)=((nv bs (ni bs i)%vs.length:Nat):Int):=rfl;have G:(nv bs (ni bs i):Int)%(vs.length:Int)=((nv bs (ni bs i)%vs.length:Nat):Int):=by rw[Int.natCast_emod]
 have p:V (nv bs (ni bs i)%vs.length=nv bs (ni bs i)%S.length):=by show _=_;rw[v.o]
 generalize nv bs (ni bs i)%vs.length=j at h t G p;have bT:¬vs=[]:=λe=>by rw[e]at aj;exact Nat.lt_irrefl _ aj
 exact qab):Zp:=h
theorem qac(h:Zp:=by
 obtain⟨u,H⟩:=GrS.start f C hP;have aq:V _:=u;have bo:V (Kept P (P+1) w _):=fw H;have aP:V (∀(W:World) (G:Nat) (o m p q r:Int),GrS W I P a n cap G bs w.heap.size (.slice a1 Y c1) (.slice a2 vs.length c2) (.slice a3 Z c3) ins vs outs->Kept P (P+1) w W->∀aD,Kept 0 0 W aD->_):=λW G o m p q r S k aD an=>S.put k an (eL o m p q r) (Nat.zero_lt_succ _) hn;have hj:(nv bs (ni bs i):Int)%(vs.length:Int)=((nv bs (ni bs i)%vs.length:Nat):Int):=by rw[Int.natCast_emod]
 have h:nv bs (ni bs i)%vs.length<vs.length:=Nat.mod_lt _ aj;generalize nv bs (ni bs i)%vs.length=j at hj h az⊢;have x:V ((nv bs (ni bs i):Int).tmod (vs.length:Int)=j):=(Int.tmod_eq_emod_of_nonneg xaa).trans hj;have bT:¬vs=[]:=λe=>by rw[e]at aj;exact Nat.lt_irrefl _ aj
 have bD:=fK C.ys i;have cg:=fK C.ys (ni bs i);have F:¬(nv bs i:Int)%16=0:=xaa;have s:V _:=O;have ad:V _:=az;clear f C u H O hj az;go_enter func36,ntmps36;go_wp2_with fail;generalize (w.alloc (.cells #[.slice a1 Y c1,.slice a2 vs.length c2,.slice a3 Z c3] 26)).alloc fp=W0 at aq bo⊢;refine yai aq.o.next ?_;rintro e aD ⟨rfl,(a7:V _),an⟩;have aO:=a7.o.bx.q1;have bW:V _:=bo.o.trans an;clear an;go_upto_region 11 with fail;go_region_held3 (λJ=>J.cell? ⟨w.heap.size,1,none⟩=some (.slice a2 vs.length c2)) (go_keep) (first|(go_at_call 13;refine yai (a7.o.keep (eF _)).next ?_;rintro e W2 ⟨rfl,t,ao⟩;have aR:=t.bx.q1));have HK:V (Kept P (P+1) w W2):=bW.o.trans ((fw (eF _)).trans ao);have aw:V _:=t;exact qad):Zp:=h
theorem qae(h:Zp:=by
 have cA:V (∀o,((w.alloc (eY bc Y c1 (some ⟨ag,0,none⟩) U c2 bd Z c3)).alloc fp).frozen? ⟨w.heap.size,o,none⟩=false):=λo=>by simp
 have bF:=fY (w.alloc (eY bc Y c1 (some ⟨ag,0,none⟩) U c2 bd Z c3));rw[show(w.alloc _).heap.size=w.heap.size+1 by simp]at bF;have HR:V _:=bF;have fm:V _:=yU _ bc bd _ Y c1 _ c2 Z c3 s x _ (cW.keep cI yaa) b8 ad au bZ bV;have fo:V _:=λW k=>xS W _ _ _ _ c1 _ c2 _ c3 _ _ _ (f.keep (cI.trans k)) bP xaa cx;have fl:V (∀W,Kept 0 0 _ W->_):=λW k=>((cW.keep (cI.trans k) yaa).at_ x au).c1;have al:V _:=f.v.len;have ec:V _:=b4;have et:V _:=bV;have a9:V _:=bZ;have cK:V _:=P;have cd:V (SzU 2000 _ _):=⟨hR f.v.len,mR _ (λj hj=>hR (b4 j (by have:=f.v.len;omega))),cD⟩
 have bD:(0:Int)<=x:=xaa;have cg:(x:Int)<U:=xaa;have bO:(0:Int)<=s:=xaa;have b9:(s:Int)<U:=xaa;have ea:((w.alloc (eY bc Y c1 (some ⟨ag,0,none⟩) U c2 bd Z c3)).alloc fp).heap.size=w.heap.size+1+1:=by simp
 clear bF cI f P cD b4 bV bZ;go_enter func139,ntmps139;go_wp2_with fail;refine yai fm.o ?_;rintro e aB ⟨A,rfl,a7,fs,an⟩;rw[ea]at fs;obtain⟨_,bk,a8,p2⟩:=aI.o.keep an;have eB:=fl.o _ an;generalize fz:(vs.getD x _).len=cu at eB;have gr:V _:=fz;clear fz fl fm;have bf:V (BR _ A _):=a7;have bW:V _:=an;clear a7 an;go_wp2_with fail;clear eB;refine yai (fo.o _ bW.o) ?_;rintro e af ⟨N,d1,a2,d2,ab,d3,rfl,b1,bS,b5,⟨aO,aR,b2⟩,ao⟩;have t:w.heap.size+1+1<=aB.heap.size:=hR bW.o.size
 have HL:V _:=LK.start al.o aI.o cA.o HR.o (bW.o.trans ao) t ao.size b1 bS b5 aO aR b2;have dg:V (BR (fB _ _ (.slice N Y d1) (.slice a2 U d2) (.slice ab Z d3)) A _):=BR.keep (BR.keep bf.o ao yaa) (ft _ w.heap.size _ _ _) (.inr (.inl xaa));have fa:V (Farb w _ _ _ _ _ _ _ A):=⟨fs,λc=>hS ((eI bS c).1) ((BR.lt bf.o)),λc=>hS ((eI b1 c).1) ((BR.lt bf.o)),λc=>hS ((eI b5 c).1) ((BR.lt bf.o))⟩
 exact qaf):Zp:=h
theorem qag(h:Zp:=by
 obtain⟨zs,aT,m,j,g,_⟩:=an;have bD:=eQ r bs bb;have d5:=eQ r bs b9;have Z:=eQ r (yaj o U.o.size) ((by rw[U.o.cell (p:=⟨aG,bF+k,none⟩) o xaa];exact G k xaa):aB.cell? ⟨aG,bF+k,none⟩=some (.float .f64 (Q.getD k 0)));have ai:=eQ r (yaj R U.o.size) ((by rw[U.o.cell (p:=⟨bH,ab+k,none⟩) R xaa];exact ag k xaa):aB.cell? ⟨bH,ab+k,none⟩=some (.float .f64 (X.getD k 0)));exact qah):Zp:=h
theorem qai(h:Zp:=by
 obtain⟨zs,aT,m,j,g,_⟩:=an;have bD:=eQ r bs bb;have d5:=eQ r bs b9;have Z:=eQ r (yaj o U.o.size) ((by rw[U.o.cell (p:=⟨aG,bF+k,none⟩) o xaa];exact G k xaa):aB.cell? ⟨aG,bF+k,none⟩=some (.float .f64 (Q.getD k 0)));exact qaj):Zp:=h
theorem qak(h:Zp:=by
 have z:V _:=fS W g off m cap ts H.tk H.m5 [43] [45];have ai:V _:=fS W g off m cap ts H.tk H.m5 [42] [47];rw[mB aK]at z ai;have c0:=H.tk.c0 0 xaa;have c1:=H.tk.c1 0 xaa;have c2:=H.tk.c2 0 xaa;have bn:=H.m5;have C:=H.mc;have bx:V _:=H.ws;have a5:V _:=H.gd;generalize ts.getD 0 hN=t at*;clear H aK;obtain⟨a0,aS,bp⟩:=t;simp only at aj bF;subst aj;simp only[Nat.zero_mul,Nat.add_zero]at c0 c1 c2;simp only;have ah:=sM bF;have bD:V _:=bF;clear bF;have bM:V (∀W',Kept 0 0 W W'->Calls prog 96 #[hG P,(⟨1,1,0,0,0,oB bp⟩:Vl).agg,hI aS] W' λe aG=>(∃x:Int,e=.returned (hI x))/\V (TrO W P I am al ar X bs (fZ st ⟨1,1,0,0,0,oB bp⟩ aS) e aG)):=λW' ap=>yai (mo (bx.o.keep ap) a5.o ⟨1,1,0,0,0,oB bp⟩ ⟨Int.le_refl _,by show(1:Int)<=1000;decide⟩ (Cb bp) aS) (λe aG t=>⟨t.ret,TrO.back ap t⟩);obtain⟨r,ay⟩:∃r,r=fZ st ⟨1,1,0,0,0,oB bp⟩ aS:=⟨_,rfl⟩
 rw[<-ay]at bM⊢;clear ay bx a5;go_enter func93,ntmps93;go_upto_region 3 with (go_at_call 122;refine yai z.o ?_;rintro e af ⟨rfl,S⟩;obtain rfl:=S.symm);go_upto_region 15 with (go_at_call 122;refine yai ai.o ?_;rintro e af ⟨rfl,S⟩;obtain rfl:=S.symm);go_upto_region 16 with fail;exact qal):Zp:=h
theorem qam(h:Zp:=by
 have aK:V _:=pV bb.o bq ak
 have aJ:V (r=.error (3,ab)):=by
  have h:=HR.o;rw[ut ak]at h;exact(hL h).symm
 have b0:V _:=jK bb.o.c5 bb.o.c6 bb.o.fr 3 ab (Mst P am al ar X) (.inl rfl);clear ak HR u bb
 go_wp2_with (first
  |(go_at_call 94;refine yai aK.o ?_;rintro e af ⟨ao,rfl,S⟩;obtain rfl:=S.symm;have e5:(0:Int)<=ao:=by omega)
  |(go_at_call 92;refine yai b0.o ?_;rintro e aX ⟨rfl,F⟩))
 refine yay (v:=.tuple #[]) (by simp[results,results56,go_sem]) rfl ?_;rw[aJ.o];exact⟨rfl,F.c5,F.c6,(Mv.of HK.o).bad F.chg⟩):Zp:=h
theorem qan(h:Zp:=by
 obtain⟨⟨ay,bc,bd,bg,Z,s⟩,b4,bi,a5,z,aS,hn,ad,HO⟩:=H.op N ab m1 ae m3 ak;clear H;unfold PtC;go_enter func145,ntmps145;go_wp2_with fail;rw[aS.o];clear ay bc bd bg Z s aS;exact qao):Zp:=h
theorem qap(h:Zp:=by
 go_enter func93,ntmps93;go_upto_region 3 with (go_at_call 122;refine yai z.o ?_;rintro e af ⟨rfl,S⟩;obtain rfl:=S.symm);go_upto_region 15 with (go_at_call 122;refine yai ai.o ?_;rintro e af ⟨rfl,S⟩;obtain rfl:=S.symm);go_upto_region 16 with fail;exact qaq):Zp:=h
theorem qar(h:Zp:=by
 intros;rename_i wc C;obtain⟨q,aG,cap',f,J,ad⟩:=C;obtain⟨_,_,s0,ax,aN,_,_,_,_⟩:=ad.o.g;go_wp2_with fail;refine(MS.lst ad.o xaa (show(q.length:Int)-1=(vs.length:Nat) by have:=f.o.2;omega)).mono ?_;clear ad s0 ax aN;rintro e h ⟨rfl,ad⟩;exact qas):Zp:=h
theorem qat(h:Zp:=by
 unfold pX;intros;rename_i aN hP;have aW:V _:=@hP;have HD:V _:=h.D;have HSV:V _:=h.hs;have ah:=h.hl;have f:=h.hc;obtain⟨_,bj,aQ,a6,an,ao,ap⟩:=HD.o.bx;obtain rfl:=Bool.eq_false_iff.2 λq=>absurd (aN.1 q) xaa;clear hP aN;conv=>arg 2;whnf
 exact qau):Zp:=h
theorem qav(h:Zp:=by
 obtain⟨bK,hi,bU,bO,bR⟩:=info_parts sV;have hn:=g.n;have bN:V _:=ue g.k a6;have C:V _:=zO g.len aL;have an:=ez 0 0 W (eK v.op v.len v.a v.b v.c v.k);have bb:V _:=h.keep an;have H:V (Mv _ W (Mst P am al ar X) _):=Mv.of an;have c1:=bb.o.c1;have aT:V _:=bb.o.r2;have co:=bb.o.fr 1;have J:=jF W v;obtain⟨ay,bc,bd,bg,Z,s⟩:=J;have cc:(W.alloc (eK v.op v.len v.a v.b v.c v.k)).heap.size=W.heap.size+1:=by simp
 have HR:V (al.ownBlock≠some P/\al.ownBlock≠some W.heap.size):=⟨h.np.2.1,λe=>hR ((eI h.r2 e).2)⟩
 have cN:=h.lt;have cC:I<=W.heap.size:=hR h.sz
 have aW:V (fZ st v p=if kM _=true then .error _ else .ok _):=rfl;generalize fZ _ v p=r at aW⊢;obtain⟨a2,B,d0⟩:=ju h.r2;clear h an g;subst d0;generalize bF:st.vs.length=bQ at*;have bD:V _:=bF;clear bF;go_enter func96,ntmps96;go_wp2_with fail;generalize t:W.alloc _=aB at c1 aT ay bc bd bg Z s cc co bb H⊢;have U:I<=aB.heap.size:=xaa;have a5:P<aB.heap.size:=xaa;have i:W.heap.size<aB.heap.size:=xaa;clear cc t;exact qaw):Zp:=h
theorem qax(h:Zp:=by
 obtain⟨⟨ay,bc,bd,bg,Z,s⟩,b4,bi,a5,z,aS,hn,ad,HO⟩:=H.op N ab m1 ae m3 ak;clear H;exact qay):Zp:=h
theorem qaz(h:Zp:=by
 have H:=ez 0 0 w (eY N Y c1 aA U c2 ab Z c3);have aS:=fE w (.slice N Y c1) (.slice aA U c2) (.slice ab Z c3);have bp:(w.alloc (eY N Y c1 aA U c2 ab Z c3)).heap.size=w.heap.size+1:=by simp
 have an:=ez 0 0 (w.alloc (eY N Y c1 aA U c2 ab Z c3)) fp;have C:=fY (w.alloc (eY N Y c1 aA U c2 ab Z c3));exact qba):Zp:=h
theorem qbb(h:Zp:=by
 obtain⟨u,H⟩:=GrS.start f C hP;have aq:V _:=u;have bo:V (Kept P (P+1) w _):=fw H;have aP:V (∀(W:World) (G:Nat) (v:Vl),GrS W I P a n cap G bs w.heap.size (.slice a1 Y c1) (.slice a2 vs.length c2) (.slice a3 Z c3) ins vs outs->Kept P (P+1) w W->∀aD,Kept 0 0 W aD->v.k<18446744073709551616->_):=λW G v S k aD an aL=>S.put k an v aL hn;have bD:=fK C.ys i;have cg:=fK C.ys (ni bs i);have s:V _:=O;generalize b8:vs.length=U at aq bo aP hn s⊢;clear b8;clear f C u H O;go_enter func36,ntmps36;go_wp2_with fail;generalize (w.alloc (.cells #[.slice a1 Y c1,.slice a2 U c2,.slice a3 Z c3] 26)).alloc fp=W0 at aq bo⊢;refine yai aq.o.next ?_;rintro e aD ⟨rfl,(aw:V _),an⟩;have HK:V _:=bo.o.trans an;clear an aq bo;obtain⟨_,ba,aO,aR,_,_,_⟩:=aw.o.bx;exact qbc):Zp:=h
theorem qbd(h:Zp:=by
 obtain⟨w,G⟩:=a5.o ax a rfl;have el:¬((a:Int)<0):=xaa;go_upto_region 7 with (go_at_call 93;refine yai av.o ?_;rintro e aX ⟨rfl,bc,bd,bg,Z,aM,bp⟩);have cd:V _:=aI.o.keepC bp.chg aP.o;obtain⟨bu,cv,a9,b7,aV⟩:=aM.lenc G;have bD:=cd.o.c0;have a8:=aM.c1;rw[a9]at a8;have S:V _:=FtI.lit aM bp a;have aW:V (gm (λs e=>eP f s u e) st (es.take 1)=some (.ok (ax,[a]))):=HO.o ax a rfl;have aL:V _:=w;have eb:V (∀i∈[a],i<ax.vs.length):=by intro i hi;simp at hi;subst hi;exact G
 have bF:=w.g.n;clear a5 av HE HO bp aM a9 b7 w bb s0;generalize fg ax a=l at aV;exact qbe):Zp:=h
theorem qbf(h:Zp:=by
 have f1:=f.keep k;refine(rU aD a1 a2 a3 Y c1 c2 Z c3 w0.heap.size vs v f1.dg.r2 f1.dg.sz xaa).mono ?_;rintro e af ⟨aG,cap',rfl,aT,ad⟩;have ah:Chg (λb=>(Value.slice a2 vs.length c2).ownBlock=some b) aD af:=⟨ad.chg.os,ad.chg.tape,ad.chg.output,ad.chg.size,λb hb hn=>ad.chg.block b hb (by rintro (c|c);exact c;exact hn c)⟩
 have aW:(Value.slice a2 vs.length c2).ownBlock=some aG\/aD.heap.size<=aG:=by
  exact xfl
 have O:∀u∈vs++[v],u.k<18446744073709551616:=λu aJ=>by
  exact xek
 have hb:=jO f1.bx ah (λc=>(f.nr _ (.inr (.inl c))).2 rfl);exact qbg):Zp:=h
theorem qbh(h:Zp:=by
 have f:∀I,I<W.heap.size->aa≠some I->R'≠some I:=λI aS C=>by
  rcases aR.row with e|⟨r,e,ay⟩<;>grind
 have bK:∀{b:Option _}{n e:Nat}{xs:List _},W.ownsRow base 3 1 _ n xs->Apart (.slice b n e) _->(∀g,(Value.slice b n e).ownBlock=some g->aa≠some g)/\(Value.slice b n e).ownBlock≠some w.heap.size/\Apart (.slice b n e) _:=λav G=>by
  exact xfv
 obtain⟨cq,ch,ev⟩:=bK h.i h.a1;obtain⟨b1,bS,b5⟩:=bK h.o h.a3;have j:aa≠some (w.heap.size+1):=λc=>by have:=(eI h.g.own (h.g.row.trans c)).1;have:=h.hb;omega
 exact qbi):Zp:=h
theorem qbj(h:Zp:=by
 obtain⟨⟨bc,bd,bg,Z,B,R,h3⟩,a8⟩:=h;have ab:∀b,(hH g9 n9 cap9).ownBlock=some b↔g9=b:=λb=>by simp[Value.ownBlock]
 have aV:∀b,Mst P bc bd bg Z b->b<W'.heap.size:=λb hb=>by
  exact xhu
 have f:¬Mst P bc bd bg Z g9:=λc=>by
  rcases bq with e|e
  ·exact h3 g9 e c
  ·have:=aV g9 c;omega
 have aP:Mv (Mst P am al ar X) W (λb=>Mst P bc bd bg Z b\/(hH g9 n9 cap9).ownBlock=some b) bo:=by
  exact xfb
 exact qbk):Zp:=h
theorem qbl(h:Zp:=by
 have bM:V (∀W' v,Kept 0 0 W W'->(1<=v.len/\v.len<=1000)->v.k<18446744073709551616->Calls _ _ _ _ λe aG=>(∃x:Int,e=.returned _)/\V (TrO W P I _ _ _ _ _ (fZ _ v _) e _)):=λW' v ap B R=>yai (mo (h.keep ap) H v B R K) (λe aG t=>⟨t.ret,t.back ap⟩);have b3:V (∀W' p,Kept 0 0 W W'->_):=λW' p ap=>jK (h.keep ap).c5 (h.keep ap).c6 (h.keep ap).fr 4 p (Mst P am al ar X) (.inl rfl);exact qbm):Zp:=h
theorem qbn(h:Zp:=by
 go_enter func45,ntmps45;go_wp2_with (first|(go_at_call 44;refine(bO.o _).mono ?_;rintro e af ⟨rfl,rfl⟩)|fail);refine(aT.o _).mono ?_;rintro e aX ⟨rfl,aU⟩;have m:=F.o.trans aU;have aJ:=aS.o.keep aU;exact qbo):Zp:=h
theorem qbp(h:Zp:=by
 have el:¬((a:Int)<0):=xaa;go_upto_region 7 with (go_at_call 93;refine yai av.o ?_;rintro e aX ⟨rfl,bc,bd,bg,Z,aM,bp⟩);exact qbq):Zp:=h
theorem qbr(h:Zp:=by
 have bl:∀aG,Kept 0 0 W' aG->_:=λaG ao=>
  aj aG P I am al ar X bs st bh Q cL u g o ts.length c0 ts ⟨H.ws.keep (ap.trans ao),H.gd,H.nm,H.lc.keep (ap.trans ao),H.ln,H.lo,c2.keep ao,H.tg,hR H.m5,c3,λt ht=>H.ti t (by simp[ht]),λt ht=>H.tn t (by simp[ht])⟩ 2 a G yad aC ae
 have bq:=gC f st u a H.gd H.nm H.lo b1 aC ae;have v:=H.ws.far2 cu;exact qbs):Zp:=h
theorem qbt(h:Zp:=by
 obtain⟨a8,p2,z,l⟩:=h.np;obtain⟨S,C,g,au,m,p⟩:=h.ap;have ab:∀b,(hH g9 n9 cap9).ownBlock=some b↔g9=b:=λb=>by simp[Value.ownBlock]
 exact qbu):Zp:=h
theorem qbv(h:Zp:=by
 obtain⟨zs,aT,m,j,g,_⟩:=an;have bD:=eQ r bs bb;have d5:=eQ r bs b9;have cx:aB.cell? ⟨aG,bF+0,none⟩=some (.float .f64 (Q.getD 0 0)):=by rw[U.o.cell (p:=⟨aG,bF+0,none⟩) o xaa];exact G 0 xaa
 have bL:=eQ r (yaj o U.o.size) cx;have bh:Q.getD 0 0<18446744073709551616:=fx am.lt 0;rw[Nat.add_zero]at bL;have ao:0<(l:Int):=xaa;exact qbw):Zp:=h
theorem qbx(h:Zp:=by
 go_enter func89,ntmps89;go_upto_region 3 with fail;have bD:V _:=A5 w i;change Code.wp _ _ _ _ ((w.alloc (.cells #[eN _,.int _ (0:Nat),eN _] 84)).alloc (.cells #[eN _,hI _,eN _] 84));generalize (w.alloc _).alloc _=W0 at bD⊢;have c0:=(aP.o _ bD.o.k).at_ i hi;exact qby):Zp:=h
theorem qbz(h:Zp:=by
 obtain⟨aN,f⟩:=x;obtain⟨B,R,n,h3⟩:=lL g _ _ (by simp_all) bb;have bG:=h3 _ (mr (k:=0) (by rw[R];simp));have f1:=h3 _ (mr (k:=1) (by rw[R];simp));exact qca):Zp:=h
theorem qcb(h:Zp:=by
 have aI:V _:=cf;clear cf;go_upto_region 4 with (go_at_call 53;refine yai bP.o ?_;rintro e af ⟨v,rfl,a7,ao⟩);obtain⟨b0,ck,rfl,O⟩:=TR.slice a7;exact qcc):Zp:=h
theorem qcd(h:Zp:=by
 obtain⟨w,G⟩:=a5.o s a rfl;have el:¬((a:Int)<0):=xaa;go_upto_region 7 with (go_at_call 93;refine yai av.o ?_;rintro e af ⟨rfl,bc,bd,bg,Z,v,aH⟩);have y:V _:=aI.o.keepC aH.chg aP.o;obtain⟨bu,cv,a9,b7,aV⟩:=v.lenc G;have bY:=v.c1;subst a9;exact qce):Zp:=h
theorem qcf(h:Zp:=by
 have aa:V _:=kV (p:=λi=>((xss.getD i []).length:Int)==ins.getD i 0) a7.o au;have am:(((xss.getD k []).length:Int) !=ins.getD k 0)=false:=by rw[bne,au];rfl
 generalize (xss.getD k []).length=y at c2 am;generalize ins.getD k 0=x at c1 am;exact qcg):Zp:=h
theorem qch(h:Zp:=by
 have G:V _:=av;have cH:V _:=bw;have a5:V _:=bq;have cw:V _:=an;obtain⟨r,ay⟩:∃r,r=Hl (ts.getD k hN) aC a0:=⟨_,rfl⟩
 rw[<-ay];have HR:V _:=ay;clear ay H av bw bq an;go_enter func93,ntmps93;have F:¬((k:Int)<0):=xaa;exact qci):Zp:=h
theorem qcj(h:Zp:=by
 have aI:V _:=fE w (.slice a1 Y c1) (.slice a2 U c2) (.slice a3 Z c3);have aP:V _:=f.keep aH;have aw:V _:=s.keep aH;have HK:V _:=aH;have cd:V (w.heap.size+1<=(w.alloc (eY a1 Y c1 a2 U c2 a3 Z c3)).heap.size):=by show _<=_;simp
 exact qck):Zp:=h
theorem qcl(h:Zp:=by
 obtain⟨a8,aC⟩:=aw b1;obtain⟨p2,a0⟩:=aw bS;obtain⟨z,ai⟩:=aw b5;have cI:Kept 0 0 w ((w.alloc g).alloc fp):=(ez 0 0 w _).trans (ez 0 0 _ _);have cc:w.heap.size<(fB aB _ _ _ _).heap.size:=yaj ap.sz K.size;exact qcm):Zp:=h
theorem qcn(h:Zp:=by
 rw[bO,Nat.mul_one,Int.toNat_natCast]at this;exact this):Zp:=h
theorem qco(h:Zp:=by
 have bu:∀i,i<vs.length->(ndI vs outs vs.length).getD i false=true->∀o∈eW (vs.getD i hM),(ndI vs outs vs.length).getD o.toNat false=true:=λi hi bu o av=>nu h3 vs.length yad i xaa hi bu o av;exact qcp):Zp:=h
theorem qcq(h:Zp:=by
 refine⟨o.1,o.2.imp id ?_⟩;rintro⟨g,cap,H,ae,N,aA,ab⟩;refine⟨g,_,_,ae,N,?_,ab⟩;have aW:g<W.heap.size:=by grind
 exact qcr):Zp:=h
theorem qcs(h:Zp:=by
 have own:∀{u:Value}{xs:List Value}{m e s:Nat},W'.ownsRow w0.heap.size e s u m xs->(∀b,u.ownBlock=some b->b≠Q)->W2.ownsRow w0.heap.size e s u m xs:=λo h=>gM o ap λb hb=>hR (h b hb)
 exact qct):Zp:=h
theorem qcu(h:Zp:=by
 have n:(4:Int)=2\/(4:Int)=3\/(4:Int)=4\/(4:Int)=5\/(4:Int)=7:=xab;have C:(5:Int)=2\/(5:Int)=3\/(5:Int)=4\/(5:Int)=5\/(5:Int)=7:=xab;have b5:(3:Int)=2\/(3:Int)=3\/(3:Int)=4\/(3:Int)=5\/(3:Int)=7:=xab;exact qcv):Zp:=h
theorem qcw(h:Zp:=by
 have aH:V _:=ez 0 0 w (eY a1 Y c1 a2 U c2 a3 Z c3);have aS:=fE w (.slice a1 Y c1) (.slice a2 U c2) (.slice a3 Z c3);exact qcx):Zp:=h
theorem qcy(h:Zp:=by
 have az:=H.tk.len;simp only[yap,yak,List.length_nil]at az;have aK:=jg G;have N:=jg hb;have bT:us≠[]:=λc=>by rw[c]at N;simp at N
 have y:=jS G yad;have Z:=jS hb yad;have bC:=H.mc;exact qcz):Zp:=h
theorem qda(h:Zp:=by
 have m:=List.findIdx_getElem (w:=bb);have hj:S.1.findIdx (ij · v)<i:=by rw[<-E.l1];exact bb
 have bg:S.1.getD (S.1.findIdx (ij · v)) hM=S.1[S.1.findIdx _]:=by
  exact xkz
 exact qdb):Zp:=h
theorem qdc(h:Zp:=by
 rw[heap_setCell_same w g k _ _ _ h];simp[List.map_set]):Zp:=h
theorem qdd(h:Zp:=by
 have aK:=t.p;have c:∀X o,I≠X->(W.setCell ⟨I,j,_⟩ u).cell? ⟨X,o,_⟩=W.cell? _:=λX o bq=>eO _ _ _ _ _ _ (.inl bq);obtain⟨bz,bj,aQ,a6,bL,bI,bJ⟩:=h.b;exact qde):Zp:=h
theorem qdf(h:Zp:=by
 unfold jb;simp only;go_enter func127,ntmps127;go_upto_region 1 with fail;change Code.wp _ _ _ _ (W.alloc (.cells _ 84));generalize W.alloc _=aD at aI HK⊢;exact qdg):Zp:=h
theorem qdh(h:Zp:=by
 obtain⟨bh,aU,aY,bW,b9,cj⟩:=bg;have r:∀o,W2.frozen? ⟨g,o,none⟩=false:=λo=>HD.o.dg.r2.frozenAt o;have K:(vd vs j).k<18446744073709551616:=HD.o.dg.k _ (i6 h);have HK:V _:=K;clear K;obtain⟨_,ba,aO,aR,_,_,_⟩:=HD.o.bx;exact qdi):Zp:=h
theorem qdj(h:Zp:=by
 clear ad;unfold PfK;intros;rename_i wc C;obtain⟨q,aG,cap',f,J,ad⟩:=C;obtain⟨_,_,s0,ax,aN,_,_,_,_⟩:=ad.o.g;go_wp2_with fail;refine(MS.lst ad.o xaa (show(q.length:Int)-1=(vs.length:Nat) by have:=f.o.2;omega)).mono ?_;clear ad s0 ax aN;rintro e h ⟨rfl,ad⟩;go_wp2_with fail;exact qdk):Zp:=h
theorem qdl(h:Zp:=by
 intros;rename_i wc C;obtain⟨vs2,aG,cap',p,Y,ad⟩:=C;obtain⟨_,_,s0,ax,aN,_,_,_,_⟩:=ad.o.g;go_wp2_with fail;refine(MS.lst ad.o xaa (show(vs2.length:Int)-1=((vs.length:Nat)+1) by have:=f.o.2;have:=p.o.2;omega)).mono ?_;clear ad s0 ax aN;rintro e h ⟨rfl,ad⟩;exact qdm):Zp:=h
theorem qdn(h:Zp:=by
 rintro e af ⟨u,rfl,aJ,p,bf⟩;have ae:V _:=HE.o u p;have z:=jQ aT bf;have x:=r.trans (bf.kept 0 0);clear p;exact qdo):Zp:=h
theorem qdp(h:Zp:=by
 have aw:=ad;obtain⟨bK,hi,bU,bO,bR⟩:=info_parts lG;have f:(l<=n/\n<=l)/\(F<=n/\n<=F):=by simp[fk,eR,cnt,lenB]at aw;omega
 obtain⟨⟨b1,ak⟩,⟨cf,aq⟩⟩:=f;clear aw;exact qdq):Zp:=h
theorem qdr(h:Zp:=by
 have aU:=bg.c1;rw[show(vs.getD j hM).len=m from ad.o]at aU;rw[x.o];clear t ao bg x cg aO a7 bW aq bo ak F ad;first|(have ae:(nv bs i:Int)%16=14:=hR s.o)|(have ae:(nv bs i:Int)%16=15:=hR s.o)
 clear s;obtain⟨_,ba,aO,aR,_,_,_⟩:=aw.o.bx;go_wp2_with fail;refine yai (aw.o.pick hn _) ?_;rintro e b4 ⟨rfl,z,bZ⟩;replace HK:V _:=HK.o.trans bZ;replace aw:V _:=z;clear z bZ ba aO aR aU;go_wp2_with fail;refine yai aw.o.next ?_;rintro e b1 ⟨rfl,v,bc⟩;replace HK:V _:=HK.o.trans bc;replace aw:V _:=v;clear v bc;have l:=cV.o;exact qds):Zp:=h
theorem qdt(h:Zp:=by
 subst az;obtain⟨q,aq,r,p⟩:∃q:Nat,q<5/\(c:Int)/8%5=(q:Int)/\c/8%5=q:=⟨c/8%5,by omega,by omega,rfl⟩
 rw[p,show((base+d/8%6:Nat):Int)=(base:Int)+d/8%6 by omega]at aW;have u:(q:Int)<5:=xaa;have l:(base:Int)<=100:=xaa;have t:(d:Int)<256:=xaa;have O:(c:Int)<256:=xaa;have cU:=PK W 3 aq;generalize ([2,3,4,5,7]:List Int).getD q 0=o at aW cU;have g:=HD.o.keep (ez 0 0 W (.cells #[hI 2,hI 3,hI 4,hI 5,hI 7] 3));clear HD p h;have HD:V _:=g;clear g;have b5:¬(c:Int)%8=0:=xaa;have Y:¬(c:Int)%8=1:=xaa;have U:¬(c:Int)%8=2:=xaa;have s:(c:Int)%8<6:=xaa;exact qdu):Zp:=h
theorem qdv(h:Zp:=by
 change Code.wp _ _ _ _ (W.alloc (.cells #[eN [110,97,109,101],hI aS,eN bp] 84));have aI:V _:=it W [110,97,109,101] aS bp;have HK:V _:=ez 0 0 W (.cells #[eN [110,97,109,101],hI aS,eN bp] 84);generalize W.alloc (.cells #[eN [110,97,109,101],hI aS,eN bp] 84)=aD at aI HK⊢;have cd:V _:=HK.o.size;generalize cf:W.heap.size=bL at aI⊢;have bv:V _:=cf;clear cf;obtain⟨bb,N,aA⟩:aD.cell? ⟨bL,0,none⟩=some (eN [110,97,109,101])/\aD.cell? ⟨bL,1,none⟩=some (hI aS)/\aD.cell? ⟨bL,2,none⟩=some (eN bp):=⟨aI.o.c0,aI.o.c1,aI.o.c2⟩
 exact qdw):Zp:=h
theorem qdx(h:Zp:=by
 have b4:∀j,j<U->_:=λj hj=>iu (List.all_eq_true.1 P j (List.mem_range.2 hj));have bV:∀j,j<U->∀k,k<cnt _->_:=λj hj=>my (List.all_eq_true.1 P j (List.mem_range.2 hj));have bZ:∀j,j<U->_:=λj hj=>AL (List.all_eq_true.1 P j (List.mem_range.2 hj));have cI:Kept 0 0 w ((w.alloc (eY bc Y c1 (some ⟨ag,0,none⟩) U c2 bd Z c3)).alloc fp):=(ez 0 0 w _).trans (ez 0 0 _ _);have aI:V _:=(fE w (.slice bc Y c1) (hH ag U c2) (.slice bd Z c3)).keep (ez 0 0 _ fp);exact qae):Zp:=h
theorem qdy(h:Zp:=by
 go_upto_region 45 with (go_at_call 123;refine yai ab.o ?_;rintro e bm ⟨di,en,rfl,aU,aY,bW,b9,bv,bB,co⟩);obtain⟨bu,cv,a9,b7,aV⟩:=bv.lenc aj;obtain⟨aS,of,ak,b8,ao,ch⟩:=co.at_ xac;subst a9 ak;have cq:V _:=aR.o.trans bB;have aB:V _:=aI.o.keepC cq.o.chg aP.o;exact qdz):Zp:=h
theorem qea(h:Zp:=by
 have aU:=bg.c1;rw[show(vs.getD j hM).len=m from ad.o]at aU;rw[x.o];clear t ao bg x cg aO a7 bW aq bo ak F ad;exact qeb):Zp:=h
theorem qec(h:Zp:=by
 obtain⟨_,bn,aC,a0,bG,f1,f2⟩:=aJ.o;go_wp2_with fail;obtain⟨bh,aU,aY⟩:=fj af (w.heap.size+1) _ _ _ bn aC a0 (.slice N Y c1) (.slice aA U c2) (.slice ab Z c3);have K:=ft af (w.heap.size+1) (.slice N Y c1) (.slice aA U c2) (.slice ab Z c3);exact qed):Zp:=h
theorem qee(h:Zp:=by
 generalize W.heap.size=bL at aI aP⊢;obtain⟨bn,cK,ec,ee⟩:=mF _ es st aa bV.o 0 (by rw[aA.o];decide) st [] rfl;obtain⟨o,b5,c0,s0,bH⟩:=af.o.call 0 (by rw[aA.o];decide);obtain⟨ed,c9⟩:=bH st bn aD am al ar X (Gw.refl cA.o) cK (bx.o.keep HK.o) (Mv.of HK.o);rw[<-af.o.cell (Mv.of HK.o).chg 0]at s0;have HE:V _:=ec;have HO:V _:=ee;have a5:V _:=ed;have av:V _:=c9;have bb:=aI.o.c0;clear cK ec ee ed c9 bH;exact qef):Zp:=h
theorem qeg(h:Zp:=by
 have aI:V _:=it W bJ ab Q;have HK:V _:=ez 0 0 W (.cells #[eN bJ,hI ab,eN Q] 84);generalize W.alloc _=aD at aI HK⊢;generalize W.heap.size=bL at aI aU⊢;have bb:V _:=u.o.ws.keep HK.o;have N:=aI.o.c1;have aA:=aI.o.c2;exact qeh):Zp:=h
theorem qei(h:Zp:=by
 obtain⟨k,O,rfl,an⟩:=hrel;clear bq;have r:=an.kept;have d1:=eQ r bs N;exact qej):Zp:=h
theorem qek(h:Zp:=by
 clear bk a8 p2;obtain⟨_,bk,a8,p2⟩:=aI.o.keep (bW.o.trans ao);have bG:=((bW.o.trans ao).frozen aI.o.sz xaa).trans (cA.o 0);have f1:=((bW.o.trans ao).frozen aI.o.sz xaa).trans (cA.o 1);have f2:=((bW.o.trans ao).frozen aI.o.sz xaa).trans (cA.o 2);have S:=BR.cell dg.o s (by rw[oe,al.o];exact ad);rw[G]at S;unfold fB at S HL dg;clear b1 bS b5 aO aR b2 ao fo aI cA HR bf bW ea;exact qel):Zp:=h
theorem qem(h:Zp:=by
 rw[U]at aT⊢;obtain⟨b0,rfl,cu,aw,aA⟩:=aT.at_ xac;obtain⟨o,c0,c1,c2,c3⟩:=aA 0 xac;obtain⟨j,aa,ak,c2',ab⟩:=aA 1 xac;exact qen):Zp:=h
theorem qeo(h:Zp:=by
 obtain⟨⟨ay,bc,bd,bg,Z,s⟩,b4,bi,a5,z,aS,hn,ad,HO⟩:=H.op N ab m1 ae m3 ak;clear H;unfold MvC;go_enter func146,ntmps146;go_wp2_with fail;rw[aS.o];clear ay bc bd bg Z s aS;refine fC (wX ad xaa ?_);clear ad;unfold MfK;exact qar):Zp:=h
theorem qep(h:Zp:=by
 have bK:∀{u:Value}{e s n:Nat}{xs:List _},W.ownsRow I e s u n xs->Apart u _->Apart u _:=λav G k O aL=>by
  exact xfi
 exact qeq):Zp:=h
theorem qer(h:Zp:=by
 have cR:¬((v:Int)<0):=xaa;go_upto_region 6 with (go_at_call 125;refine yai f.o ?_;rintro e af ⟨rfl,ao⟩);have bN:V _:=HK.o.trans ao;have cF:V _:=aI.o.keep ao;have s0:=aq.o af bN.o;have av:V _:=i.o ⟨v,rfl⟩ af bN.o;clear f aI HK ao bb ax aN bC cp aq i;exact qes):Zp:=h
theorem qet(h:Zp:=by
 rw[mB aK]at z ai;have c0:=H.tk.c0 0 xaa;have c1:=H.tk.c1 0 xaa;have c2:=H.tk.c2 0 xaa;have bn:=H.m5;have C:=H.mc;exact qeu):Zp:=h
theorem qev(h:Zp:=by
 go_enter func146,ntmps146;go_wp2_with fail;rw[aS.o];clear ay bc bd bg Z s aS;exact qew):Zp:=h
theorem qex(h:Zp:=by
 have P:=h;have ae:=f.i.len;have a9:=f.v.len;have ak:=f.o.len;unfold okG at P;simp only[Bool.and_eq_true,decide_eq_true_eq,ae,a9,ak]at P;obtain⟨⟨bP,b8,cx⟩,_,aL,av,_⟩:=P;have bT:V _:=aL;have HO:V _:=av;exact qey):Zp:=h
theorem qez(h:Zp:=by
 have K:=ft aB w.heap.size (.slice N Y d1) (.slice a2 U d2) (.slice ab Z d3);have ap:=bq.keep k;obtain⟨bh,aU,aY⟩:=fj _ _ _ _ _ ap.q0 ap.q1 ap.q2 (.slice N Y d1) (.slice a2 U d2) (.slice ab Z d3);exact qfa):Zp:=h
theorem qfb(h:Zp:=by
 go_enter func138,ntmps138;go_upto_region 1 with fail;change Code.wp _ _ _ _ (W.alloc (.cells _ 84));generalize W.alloc _=aD at aI HK⊢;generalize W.heap.size=bL at aI⊢;exact qfc):Zp:=h
theorem qfd(h:Zp:=by
 clear HR a5 cw cJ cB aM bp N R aq au bH bX;obtain⟨K,s⟩:∃K,ts.getD k hN=K:=⟨_,rfl⟩
 have aQ:V _:=s;rw[s]at c1 d1 ab aJ;clear s;obtain⟨aB,w,bf⟩:=K;exact qfe):Zp:=h
theorem qff(h:Zp:=by
 have ae:(S.1++[rnm S.2 (vs.getD i hM)]).getD i hM=rnm S.2 (vs.getD i hM):=by
  exact xfu
 exact qfg):Zp:=h
theorem qfh(h:Zp:=by
 have aH:=ez 0 0 w (eY a1 Y c1 (some ⟨ag,bS,none⟩) U c2 a3 Z c3);have bg:=I i hi;rw[aL]at bg;have bf:V (∀k,k<U->At w ag (bS+k*6) (vs.getD k hM)):=I;exact qfi):Zp:=h
theorem qfj(h:Zp:=by
 have bl:=ez 0 0 w (eY none 0 0 none 0 0 none 0 0);have bP:V _:=pW (f.keep bl) xaa G;have HL:V ((jH t).length<=4000):=by show _<=_;have:=qy t;have:=f.len;omega
 exact qfk):Zp:=h
theorem qfl(h:Zp:=by
 have F:=ez 0 0 wr (eK (vs.getD k hM).op (vs.getD k hM).len (vs.getD k hM).a (vs.getD k hM).b (vs.getD k hM).c (vs.getD k hM).k);exact qfm):Zp:=h
theorem qfn(h:Zp:=by
 obtain⟨j,rfl⟩:∃j:Nat,A=j:=⟨A.toNat,by omega⟩
 rw[show fI (j:Int) Y=true from decide_eq_true a7,Bool.true_and,Int.toNat_natCast];have hj:j<Y:=xaa;exact qfo):Zp:=h
theorem qfp(h:Zp:=by
 have a5:V (br<w.heap.size/\ag<w.heap.size/\aD<w.heap.size/\br≠ag/\br≠aD/\ag≠aD):=⟨hP.i.lt,hP.v.lt,hP.o.lt,hP.d12,hP.d13,hP.d23⟩
 have H2:V _:=R;exact qfq):Zp:=h
theorem qfr(h:Zp:=by
 have l:(1:Int)+(nv bs (ni bs (ni bs (ni bs i))):Int)%4=((1+nv bs (ni bs (ni bs (ni bs i)))%4:Nat):Int):=xaa;have K:=fK C.ys (ni bs (ni bs (ni bs i)));exact qfs):Zp:=h
theorem qft(h:Zp:=by
 obtain⟨a4,cb,a6⟩:=jM bb.o.r4;subst a6;go_upto_region 2 with (go_at_call 94;refine yai aK.o ?_;rintro e af ⟨i,rfl,bu,S⟩;obtain rfl:=S.symm);exact qfu):Zp:=h
theorem qfv(h:Zp:=by
 have bD:=y.o.c0;have d1:=y.o.c1;have bF:=w.g.n;generalize fg s a=l at aV bM;generalize s.vs.length=bQ at*;clear v aH av aI HR a5 w bb s0;exact qfw):Zp:=h
theorem qfx(h:Zp:=by
 have ad:V _:=a6;clear a6 HL;go_upto_region 7 with (go_at_call 54;refine yai x.o ?_;rintro e aX ⟨rfl,aM⟩);have aV:V _:=bN.o.trans aM;exact qfy):Zp:=h
theorem qfz(h:Zp:=by
 generalize Q.getD k 0=aj at Z H HE;generalize X.getD k 0=ap at ai Y HE;have ao:(k:Int)<l:=xaa;have aN:(k:Int)<F:=xaa;exact qga):Zp:=h
theorem qgb(h:Zp:=by
 have dv:V (∀W' aG,Kept 0 0 bm W'->Chg (Mst P aU (hH bu bC.vs.length cv) bW b9) W' aG->aG.cell? ⟨bL,1,none⟩=some (hI K)/\aG.cell? ⟨aS,of,none⟩=some (hI (j:Nat))/\aG.cell? ⟨aS,of+1,none⟩=some (hI (n:Nat))):=λW' aG ap b3=>by
  exact xff
 have bF:=ae.g.n;have ef:=ae.g.lenB aj;have dg:V _:=ae.g;have ea:V _:=bv;have eg:V _:=cw;exact qgc):Zp:=h
theorem qgd(h:Zp:=by
 refine fC (xR ad xaa ?_);clear ad;unfold PfK;intros;rename_i wc C;obtain⟨vs2,aG,cap',p,Y,ad⟩:=C;obtain⟨_,_,s0,ax,aN,_,_,_,_⟩:=ad.o.g;go_wp2_with fail;refine(MS.lst ad.o xaa (show(vs2.length:Int)-1=((vs.length:Nat)+1) by have:=f.o.2;have:=p.o.2;omega)).mono ?_;clear ad s0 ax aN;rintro e h ⟨rfl,ad⟩;go_wp2_with fail;exact qge):Zp:=h
theorem qgf(h:Zp:=by
 have bC:=H.mc;have bn:=H.m5;have bq:bs.length<=100000:=by rw[H.ws.nl];have:=H.gd.m;omega
 have c0:=H.tk.c0 0 xaa;have b5:=H.tk.c0 1 xaa;have Y:=H.tk.c1 1 xaa;have U:=H.tk.c2 1 xaa;exact qgg):Zp:=h
theorem qgh(h:Zp:=by
 have d1:=cD.o.c1;clear aC bq bG HR cF bT v O bV af cA;obtain⟨q,aq⟩:∃q,q=ko s xs K:=⟨_,rfl⟩
 have ce:V _:=aq;rw[<-aq]at ab cf;clear aq;rw[az.o]at ab⊢;exact qgi):Zp:=h
theorem qgj(h:Zp:=by
 have aK:V _:=pU bb.o bq ak;have HFn:V _:=ak;clear ak;go_upto_region 23 with (go_at_call 94;refine yai aK.o ?_;rintro e af ⟨rfl,S⟩;obtain rfl:=S.symm);clear aK;exact qgk):Zp:=h
theorem qgl(h:Zp:=by
 have az:=H.tk.len;simp only[yap,yak,List.length_nil]at az;have aK:=jg G;have y:=jS G yad;have bC:=H.mc;have b1:=jB G (λt ht=>H.ti t (by simp[ht])) a xac;exact qgm):Zp:=h
theorem qgn(h:Zp:=by
 rw[bp]at C;have aI:V _:=aS.keep an;have HR:V _:=C;have HK:V _:=H.trans an;have a5:V (br<w.heap.size/\ag<w.heap.size/\aD<w.heap.size):=⟨hP.i.lt,hP.v.lt,hP.o.lt⟩
 have cl:vs.length=U:=hP.v.len;obtain⟨_,_,aL,_,_⟩:=gz P;exact qgo):Zp:=h
theorem qgp(h:Zp:=by
 obtain⟨_,bj,aQ,a6,_,_,_⟩:=U.o.bx;obtain⟨_,bn,aC,a0,bq,br,bC⟩:=U.o.rs;go_wp2_with fail;obtain⟨bk,a8,p2⟩:=fj _ (w.heap.size+1) _ _ _ bn aC a0 (.slice a1 ins.length c1) (hH g vs.length c2) (hH g9 n9 cap9);exact qgq):Zp:=h
theorem qgr(h:Zp:=by
 rintro e J ⟨rfl,rfl⟩;rw[ad];clear ad;go_wp2_with fail;exact qgs):Zp:=h
theorem qgt(h:Zp:=by
 obtain⟨a0,aS,bp⟩:=t;simp only at aj;subst aj;have ay:((m:Int)==1)=false:=yaw xaa;simp only[Nat.zero_mul,Nat.add_zero]at c0 c1 c2;exact qap):Zp:=h
theorem qgu(h:Zp:=by
 have cV:V (∀(X cy cb:Value) (o:Nat),(((wr.setCell _ X).setCell _ cy).setCell _ cb).drew.cell? _=wr.cell? ⟨_,o,_⟩):=λX cy cb o=>mb _ _ _ _ X cy cb gw;have eg:V _:=HL.o.a4;have R1:V _:=HL.o.fin (eF _);exact qgv):Zp:=h
theorem qgw(h:Zp:=by
 rw[<-ay];have HR:V _:=ay;clear ay h H bf C cG;unfold jb;simp only;go_enter func128,ntmps128;go_upto_region 2 with fail;exact qgx):Zp:=h
theorem qgy(h:Zp:=by
 have z:V _:=fS W g off m cap ts H.tk H.m5 [43] [45];have ai:V _:=fS W g off m cap ts H.tk H.m5 [42] [47];exact qet):Zp:=h
theorem qgz(h:Zp:=by
 have bb:=aI.o.c0;go_upto_region 3 with (go_at_call 95;refine yai (bX.o _) ?_;rintro e af ⟨rfl,ao⟩);have bN:V _:=HK.o.trans ao;have y:V _:=aI.o.keep ao;exact qha):Zp:=h
theorem qhb(h:Zp:=by
 rw[R]at bQ;have bN:V _:=ao;clear ao bv;go_wp2_with fail;clear ba aO aR;refine yai bQ.o ?_;rintro e aX ⟨rfl,d3⟩;have aM:=Kept.trans bN.o (d3.kept 0 0);exact qhc):Zp:=h
theorem qhd(h:Zp:=by
 have cV:¬((y:Int)<0):=xaa;go_upto_region 11 with (go_at_call 93;refine yai cJ.o ?_;rintro e aX ⟨rfl,aZ,be,bz,bE,aM,bp⟩);have N:=cB.o.trans bp;exact qhe):Zp:=h
theorem qhf(h:Zp:=by
 obtain⟨w,G⟩:=a5.o ⟨v,rfl⟩ s a rfl;have au:=yaj (cj.o v rfl) w.n;exact qbp):Zp:=h
theorem qhg(h:Zp:=by
 obtain⟨xs,au⟩:=aw.o;have bv:V _:=au;rw[<-au]at af az;have HD:V _:=af;clear bf af au aw;generalize ah:xs.length=l at HD az;have ax:V _:=ah;exact qhh):Zp:=h
theorem qhi(h:Zp:=by
 have u:V _:=H;have aU:V _:=H.ws.far;obtain⟨bJ,ab,Q⟩:=n;simp only[Nat.zero_mul,Nat.add_zero,Nat.one_mul]at c0 b5 Y U;simp only[iU]at h;have HR:V _:=h;exact qhj):Zp:=h
theorem qhk(h:Zp:=by
 clear aV ch bv bB co ah ab aR aT b8 ao b7 cw d1 cD cq az cf aI ce aJ;go_quiet (fail)
 have ai:V _:=eM 0 0 bm nq;have cN:V _:=ad.o _ ai.o;exact qhl):Zp:=h
theorem qhm(h:Zp:=by
 have cF:V (aa=.ok (s,xs)):=by
  exact xgd
 obtain⟨cM,ej,aZ,be,bz,bE,rfl,aC,(aR:V _),bq⟩:=bG.o.xs;have ab:V _:=zZ aC v.o.g cM xs.length ej xs bq (by rw[az.o];decide) O.o K;have cD:V _:=aI.o.keepC aR.o.chg aP.o;exact qhn):Zp:=h
theorem qho(h:Zp:=by
 obtain⟨k,O,rfl,an⟩:=hrel;clear bq;have r:=an.kept;have d1:=eQ r bs N;exact qhp):Zp:=h
theorem qhq(h:Zp:=by
 have cf:=ci.o.lt;have a6:=ci.o.c2;have aT:V _:=C.r4;have bE:V _:=C;have cU:bs.length<=5000:=hU C.nl ch.m
 clear C;subst e4;generalize bF:bs.length=bQ at*;have bD:V _:=bF;clear bF;exact qhr):Zp:=h
theorem qhs(h:Zp:=by
 go_wp2_with fail;clear bk a8 p2 aS;generalize (w.alloc (eY N Y c1 aA U c2 ab Z c3)).alloc fp=aB at aI HR HK bx⊢;refine yai bx.o ?_;rintro e af ⟨rfl,(f:V _),(bw:V _)⟩;exact qht):Zp:=h
theorem qhu(h:Zp:=by
 obtain⟨bX,c7⟩:=cQ.o _ _ rfl;have ev:¬((a2:Int)<0):=xaa;have cr:V _:=cU.o _ _ rfl;have cR:V _:=v.o.trans bX
 have cJ:V (∀i∈xs++[a2],i<aN.vs.length):=by
  exact xdt
 exact qhv):Zp:=h
theorem qhw(h:Zp:=by
 have cO:=tK (by rw[hn];decide) (by rw[hn];decide) (by rw[hn];decide);have U:=AX y ai cO
 have aJ:ts++c::[n]=((k::l::(ts++[c,n,q])).drop 2).take (m-1-2):=by
  exact xgk
 exact qhx):Zp:=h
theorem qhy(h:Zp:=by
 have aP:V _:=h.far;have bx:V _:=h;have cA:V _:=H;have af:V _:=bf;have bV:V _:=C;have aA:V _:=cG;exact qhz):Zp:=h
theorem qia(h:Zp:=by
 have aw:=ad;obtain⟨bK,hi,bU,bO,bR⟩:=info_parts lG;have f:(l<=n/\n<=l):=by simp[fk,eR,cnt,lenB]at aw;omega
 obtain⟨b1,ak⟩:=f;clear aw;exact qib):Zp:=h
theorem qic(h:Zp:=by
 go_enter func56,ntmps56;go_upto_region 20 with fail;go_upto_region 21 with fail;change Code.wp _ _ _ _ (W.alloc (.cells #[eN _,.int _ ab,eN _] 84));exact qeg):Zp:=h
theorem qid(h:Zp:=by
 have cw:¬Mst P aU (hH bu bC.vs.length cv) bW b9 bL:=λc=>(cq.o.new bL c).elim aP.o (λc=>hR aI.o.lt);have cH:V _:=(Mv.of (M:=Mst P am al ar X) HK.o).trans cq.o;exact qie):Zp:=h
theorem qif(h:Zp:=by
 have cf:V _:=λbC U (aw:ko s xs K=.ok (bC,U))=>lL v.o.g xs K O.o aw;exact qgh):Zp:=h
