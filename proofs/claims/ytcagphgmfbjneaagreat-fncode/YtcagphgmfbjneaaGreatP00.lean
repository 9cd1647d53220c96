import Derived.BigQuiet
import Derived.BigRegion
import Derived.Deep.AppendLies
import Derived.Deep.AppendSrc
import Derived.Deep.DeepCutAuto
import Derived.Deep.DrawnRows
import Derived.Deep.Draws
import Derived.Deep.LoopGhost
import Derived.Deep.Quiet
import Derived.Deep.QuietTactic
import Derived.Deep.RegionHeld3
import Derived.Deep.RegionLaw
import Derived.Deep.RegionWith
import Derived.Deep.Slices
import Derived.DeepKeys4
import Derived.Laws.BytesArg
import Derived.Laws.CopyOwn
import Derived.Laws.Cover3
import Derived.Laws.FloatArith
import Derived.Laws.OwnMore
import Derived.Lib.Bytes
import Derived.Lib.ConvBytes
import Derived.Lib.EndianBits
import Derived.LoopIn
import Derived.LoopNIn
import Derived.Maps.OwnOps
import Derived.Maps.OwnSet
import Derived.OpenShut
import Derived.OwnWalkIn
import Derived.ProofKit
import Derived.RangeFuncBound
import Derived.RangeFuncCalls
import Derived.RangeFuncLeaves
import Derived.RangeFuncNested
import Derived.Shelf.Abstract
import Derived.Shelf.Bytes.SlSmallAll
import Derived.Shelf.RegionOpen
import Derived.StillTail
import Derived.TacticsInMore
import Derived.WalkKit
import Derived.WalkLawsBesides
import Derived.WalkSpells
namespace Go.Proofs.Z
variable{Zp:Prop}
def V(p:Prop):Prop:=p
theorem V.o{p}(h:V p):p:=h
theorem i4{p q:Prop}(h:q)(g:q->p:=by intro x;rw[x];rfl):p:=g h
theorem i3{p q:Prop}(h:q)(g:q->p:=by intro x;rw[x];omega):p:=g h
theorem i2{p q r:Prop}(h:q)(k:r)(g:q->r->p:=by intro x y;rw[<-x];exact y):p:=g h k
theorem i1{p q r:Prop}(h:q)(k:r)(g:q->r->p:=by intro x y;rw[x];exact y):p:=g h k
theorem i0{p q r:Prop}(h:q)(k:r)(g:q->r->p:=by intro _ _;omega):p:=g h k
theorem ix{p q:Prop}(h:q)(g:q->p:=by intro _;omega):p:=g h
theorem h8{α:Type _}{a b:α}(h:some a=some b):a=b:=Option.some.inj h
theorem h7{c:Prop}{d:Decidable c}(h:c){α:Sort _}{t e:α}:ite c t e=t:=if_pos h
theorem h6{c:Prop}{d:Decidable c}(h:¬c){α:Sort _}{t e:α}:ite c t e=e:=if_neg h
theorem h5{a b:Prop}(h:a)(g:b):a/\b:=⟨h,g⟩
open Go.RowKit
theorem yaa{A B}{n:Nat}:A∨B∨n≤n:=.inr (.inr (Nat.le_refl _))
theorem yab{A}{n:Nat}:A∨n≤n:=.inr (Nat.le_refl _)
theorem yac{A n}:(n≤n∧n<n+1)∨A:=.inl ⟨Nat.le_refl _,Nat.lt_succ_self _⟩
theorem yad{n:Nat}:n≤n:=Nat.le_refl _
theorem yae{n}:0≤n:=Nat.zero_le _
theorem yaf{n}:n<n+1:=Nat.lt_succ_self _
theorem yag(h:Zp:=by simp;omega):Zp:=h
theorem yah(h:Zp:=by show(0:Nat)<18446744073709551616;decide):Zp:=h
theorem yai.{u}{α:Type u}{l:List α}{i a}:l.getD i a=l[i]?.getD a:=List.getD_eq_getElem?_getD
theorem yaj{P f args w R R'}(h:Calls P f args w R)(g:∀e w',R e w'→R' e w'):Calls P f args w R':=h.mono g
theorem yak{n m k:Nat}(h:n<m)(g:m≤k):n<k:=Nat.lt_of_lt_of_le h g
theorem yal.{u}{α:Type u}{s t:List α}:(s++t).length=s.length+t.length:=List.length_append
theorem yam.{u}{α:Type u}{l:List α}{i}(h:i<l.length):l[i]?=some l[i]:=List.getElem?_eq_getElem h
theorem yan.{u}{α:Type u}[BEq α][LawfulBEq α]{a b:α}(h:a≠b):(a==b)=false:=beq_eq_false_iff_ne.2 h
theorem yao{n m k:Nat}(h:n≤m)(g:m≤k):n≤k:=Nat.le_trans h g
theorem yap.{u}{α:Type u}{i}{l:List α}(h:l.length≤i):l.take i=l:=List.take_of_length_le h
theorem yaq.{u}{α:Type u}{a}{s:List α}:(a::s).length=s.length+1:=rfl
theorem yar{a b:ByteArray}:(a++b).size=a.size+b.size:=ByteArray.size_append
theorem yas.{u}{α:Type u}{l r:List α}{i}(h:l.length≤i):(l++r)[i]?=r[i-l.length]?:=List.getElem?_append_right h
theorem yat.{u}{α:Type u}{l r:List α}{i}(h:i<l.length):(l++r)[i]?=l[i]?:=List.getElem?_append_left h
theorem yau.{u}{α:Type u}{i}{l:List α}(h):l.take (i+1)=l.take i++[l[i]]:=List.take_succ_eq_append_getElem h
theorem yav(w:World)(c t i):(w.alloc (.cells c t)).cell? ⟨w.heap.size,i,none⟩=c[i]?:=World.cell?_alloc_new w c t i
theorem yaw(w:World)(b e s):w.ownsRow b e s (.slice none 0 0) 0 []:=World.ownsRow_nil w b e s
theorem yax.{u}{α:Type u}[BEq α][LawfulBEq α]{a b:α}(h:a≠b):(a==b)=false:=beq_false_of_ne h
theorem yay{p}[Decidable p](h:¬p):decide p=false:=decide_eq_false h
theorem yaz{P fn R a w v}(h:Sem.run P (results fn a.tmps) w=.ok v w)(g:a.defers=[])(k:R (.returned v) w):bodyPost P fn R .ret a w:=bodyPost_ret h g k
open Go.RowKit
abbrev hZ(b:Nat):Value:=.pointer (some ⟨b,0,none⟩)
abbrev h0(b n c:Nat):Value:=.slice (some ⟨b,0,none⟩) n c
abbrev h1(x:Int):Value:=.int .i64 x
theorem xaa(h:Zp:=by omega):Zp:=h
theorem xab(h:Zp:=by decide):Zp:=h
theorem xac(h:Zp:=by simp):Zp:=h
theorem xad(h:Zp:=by
 conv=>arg 2;whnf
 go_region_with (first
  |(go_at_call 78;refine yaj (bf.o _ ((eF W).trans an)) ?_;rintro e am ⟨aC,cap',rfl,⟨u0,bq⟩,⟨u1,aq⟩,⟨u2,aT⟩,ak,_,aG⟩;have bR:=ak 0;have bS:=ak 1;have bT:=ak 2;clear ak)
  |(go_at_call 79;refine yaj (gG _ _ _ _ _ _) ?_;rintro e aH ⟨rfl,an⟩;have bH:=(MS.keep Y.o ((eF W).trans an)).g.c0;have bk:=(MS.keep Y.o ((eF W).trans an)).g.c1;have p2:=(MS.keep Y.o ((eF W).trans an)).g.c2))
 all_goals exact HK _ ⟨_,_,_,⟨rfl,by simp⟩,by simp,aG⟩):Zp:=h
theorem xae(h:Zp:=by
 have aY:=Y.o.g.c0;have ar:=Y.o.g.c1;have aW:=Y.o.g.c2;exact xad):Zp:=h
theorem xaf(h:Zp:=by
 unfold MfC;intros;rename_i HK;have aY:=Y.o.g.c0;have ar:=Y.o.g.c1;have aW:=Y.o.g.c2;obtain⟨_,bl,aS,a9,bF,bB,bG⟩:=Y.o.b;have b:V (∀W:World,_):=λW=>iY W U J aa m1 af vs.length cap m3 ah xaa;rw[bI]at b;clear bI;conv=>arg 2;whnf
 go_region_with (first
  |(go_at_call 85;refine yaj (b.o _) ?_;rintro e aU ⟨rfl,aZ⟩;clear bl aS a9 bF bB bG;obtain⟨⟨_,_,aP,ay,aB,_,_,_,_⟩,⟨_,bl,aS,a9,bF,bB,bG⟩,_,_,_,_,_⟩:=MS.keep Y.o ((eF W).trans aZ)))
 all_goals
  obtain⟨bh,aJ,y2⟩:=fd aU (w.heap.size+1) _ _ _ bl aS a9 (.slice U m1 af) (.slice J vs.length cap) (.slice aa m3 ah)
  exact HK _ ⟨bh,aJ,y2,⟨aU,(eF W).trans aZ,rfl⟩⟩):Zp:=h
theorem xag(h:Zp:=by
 have bf:V _:=ki ((aD.o _ C.o.k).cut (i:=i) b.o.2) (cap-i);have ab:=b.o.1;have bP:(0:Int)<=i:=xaa;have aR:(i:Int)<=j:=xaa;have bd:(j:Int)<=cap:=ix b.o.2
 have af:((j:Int)-i).toNat=j-i:=xaa;have y2:=C.o.t.c2;have y3:=C.o.t.fr 2;have al:=bf.o;go_upto_region 25 with fail;change Code.wp _ _ _ _ (wr.setCell _ (eK _));have d:V _:=C.o.text (kN t i j);clear bf al y2 y3 ab bP aR bd af;generalize wr.setCell _ _=ax at d⊢;generalize ap:kN t i j=x at d;have HX:V _:=ap;clear ap;obtain⟨_,bq,aq,aT,ak⟩:=d.o.r;obtain⟨_,bl,aS,a9,a⟩:=d.o.t;have bR:=ak 0;have bS:=ak 1;have bT:=ak 2;have R:V _:=d.o.fin;clear ak a d;go_wp2_with fail;change bodyPost _ _ _ _ _ (((ax.setCell _ (eK _)).setCell _ _).setCell _ (eK x));generalize ((ax.setCell _ _).setCell _ _).setCell _ _=ca at R⊢;obtain⟨⟨_,bN,f1,f2,_⟩,r⟩:=R.o;refine yaz (v:=.tuple #[.agg #[eK ik,h1 i,eK x],h1 j]) (by simp[results,results108,go_sem,bN,f1,f2]) rfl ⟨?_,r⟩;rw[bO.o.1,bO.o.2,HX.o];rfl):Zp:=h
theorem xah(h:Zp:=by
 clear Y;unfold PfK;intros;rename_i wc K;obtain⟨f,aC,cap',b,B,Y⟩:=K;go_wp2_with fail;refine fh (kB Y xaa (show(f.length:Int)-1=(vs.length:Nat) by have:=b.o.2;omega) ?_);unfold PfK;intros;rename_i aU K;obtain⟨bh,aJ,y2,HR⟩:=K;go_wp2_with fail;exact yaz (by simp[results,results139,go_sem,bh,aJ,y2]) rfl (MS.finPR Y.o HR.o (by rw[b.o.1]<;>simp))):Zp:=h
theorem xai(h:Zp:=by
 obtain⟨D,bx⟩:=Int.eq_ofNat_of_zero_le X.1;obtain⟨a,I⟩:=Int.eq_ofNat_of_zero_le (show 0<=s.len by omega);have HD:V (s.dst+s.len=((D+a:Nat):Int)):=by show _=_;omega
 have ao:D+a<=n:=xaa;have ax:V (g≠P):=by show _≠_;have:=bv.o;have:=ai.o;omega
 have HE:V (∀w,Calls prog 59 #[(Spn.mk (D:Int) (a:Int)).agg] w λe B=>e=.returned (h1 ((D:Int)+a))/\Kept 0 0 w B):=λw=>py w (Spn.mk (D:Int) (a:Int)) (by show -1000000<=(D:Int)+a/\(D:Int)+a<=1000000;omega);have ar:V (AtP _ P 0 (Spn.mk s.dst s.len)/\P<_):=⟨d.o,O⟩
 have aB:V _:=(ah.o.mono (lo':=g) (hi':=g+1) λb _ c=>by omega)
 have av:V (BL _ g n (jc ss i s (D:Int))):=BL.congr Y.o (λk _=>by rw[su ss i s k,bx]);rw[bx]at aP;go_wp2_with fail;clear aP ay d ah Y;go_loopw [8] (λx W=>∃j:Nat,D<=j/\j<=D+a/\x=h1 j/\V (BL W g n (jc ss i s (j:Int)))/\V (AtP W P 0 (Spn.mk s.dst s.len)/\P<W.heap.size)/\V (Kept g (g+1) w W)) (λx _=>D+a-(intOf x).toNat)
 case atStart=>exact⟨D,yad,by omega,rfl,av,ar,aB⟩
 case round=>
  exact xap):Zp:=h
theorem xaj(h:Zp:=by
 go_wp2_with (first|(go_at_call 68;refine yaj (j.o _) ?_;rintro e am ⟨rfl,rfl⟩)|(at_builtin;refine gj br.o bU HZ.o rfl _ _ rfl rfl rfl ?_;intro v' bn ae));have R:V _:=ae;clear ae br;go_wp2;exact xaw):Zp:=h
theorem xak(h:Zp:=by
 go_enter func116,ntmps116
 go_wp2_with ((first
  |(go_at_call 117;refine(A.2 _ _ au).mono ?_)
  |(go_at_call 14;refine(nxS au.o).mono ?_)
  |(go_at_call 131;refine(I.2 _ _ au).mono ?_)
  |(go_at_call 100;refine((D _).2 _ _ au).mono ?_));rintro e aH ⟨rfl,a2⟩;clear au;have au:V _:=a2;clear a2)
 go_ret;exact⟨rfl,au.o⟩):Zp:=h
theorem xal(h:Zp:=by
 obtain⟨aR,bd,bu,bC,aq,ae,bh⟩:=bf.o.ex;have bS:Mv (Mst P u1 u2 u3 u4) ax (Mst P aR bd bu bC) wr:=⟨ae.chg,λb hb=>ae.new b (.inl hb)⟩
 obtain⟨c7,cP,cR,cS⟩:=mJ _ es st R ap.o k (i1 aV.o hlt) s xs bz.o;obtain⟨o,Z,c1,y,cD⟩:=m.o.call k (i1 aV.o hlt);obtain⟨b1,cQ⟩:=cD s c7 wr aR bd bu bC j.o cP aq ((Mv.of HK.o).trans bS);rw[<-m.o.cell ((Mv.of HK.o).trans bS).chg k]at y;have cH:V _:=cR;have cO:V _:=cS;have cI:V _:=b1;have bW:V _:=cQ;have aB:V _:=ae;have bP:V _:=bh;have cM:V _:=(Mv.of (M:=Mst P u1 u2 u3 u4) HK.o).trans bS;clear cP cR cS b1 cQ cD aq ae bh bS;rcases c7 with⟨c,p⟩|⟨aW,J⟩
 ·exact xca
 exact xat):Zp:=h
theorem xam(h:Zp:=by
 have ai:=u.o;generalize Lib.bytesWorld _ 5 _=bo at B aX G;generalize wr.heap.size=aa at B aX;generalize grownCap _ _ 0 5=aK at B;go_upto_region 12 with (go_at_call 98;refine yaj (rA _ _ _ _ _ aX.o xaa) ?_;rintro e bA ⟨b4,c,rfl,K,bx⟩);have au:V _:=(aG.o.trans G.o).trans (bx.kept 0 0);have k:=be.o _ (G.o.trans (bx.kept 0 0));rcases ae.o with⟨P,z⟩|⟨d,bM⟩
 ·exact xfl
 exact xan):Zp:=h
theorem xan(h:Zp:=by
 have l:c=cb/\c≠0:=by
  exact xdl
 have aC:(c !=0)=true:=by unfold bne;rw[yax l.2];rfl
 have O:V _:=aO.o.trans au.o;obtain⟨az,b5,a0,fr⟩:=bv.o _ O.o;have bN:=fr 0;have f1:=fr 1;have f2:=fr 2
 have ar:(((bA.drew.setCell ⟨a7,0,none⟩ (.slice none 0 0)).setCell ⟨a7,1,none⟩ (.slice none 0 0)).setCell ⟨a7,2,none⟩ (.slice none 0 0)).cell? ⟨ao,i*3+1,none⟩=some (h1 ps):=by
  exact xhw
 obtain⟨bh,aJ,y2⟩:=fd _ _ _ _ _ az b5 a0 (.slice none 0 0) (.slice none 0 0) (.slice none 0 0);have bP:(bA.setCell ⟨_,0,_⟩ _).cell? _=some (.slice none 0 0):=fy _ _ _ _ _ az;have aR:((bA.setCell ⟨a7,0,_⟩ (.slice none 0 0)).setCell _ _).cell? _=some (.slice none 0 0):=fy _ _ _ _ _ ((eV _ _ _ _ _ _ (.inr xaa)).trans b5);have R:V (Kept 0 0 w (((bA.drew.setCell _ (.slice none 0 0)).setCell _ (.slice none 0 0)).setCell _ (.slice none 0 0))):=A2 ((HK.o.trans O.o).trans (eF _)) (Nat.le_of_eq aD.o) _ _ _;have ct:V _:=r.o d;have x:V _:=l.1;clear l bM K d ae aX G B bx aP ay aB fr bv;go_upto_region 13 with fail;go_region
 all_goals (
  go_wp2_with fail
  refine yaz (v:=.tuple #[wW,h1 c,h1 ps]) (by simp[results,results83,go_sem,bP,aR,y2]) rfl ?_
  rw[<-bC.o,ct.o,<-x.o]
  exact⟨rfl,R.o⟩)):Zp:=h
theorem xao(h:Zp:=by
 have bc:=Y.o.v.c3;exact xad):Zp:=h
theorem xap(h:Zp:=by
 obtain⟨j,af,aa,rfl,m,l,az⟩:=hrel;obtain⟨aP,ay⟩:=l.o.1;rw[Nat.zero_add]at ay;go_wp2_with fail;refine yaj (HE.o _) ?_;rintro e cq ⟨rfl,cl⟩;have r:V _:=BL.keep m.o cl yaa;have v:V _:=Kept.trans az.o (cl.mono (lo':=g) (hi':=g+1) λb _ c=>by omega);have u:V (AtP cq P 0 (Spn.mk s.dst s.len)/\P<cq.heap.size):=⟨AtP.keep l.o.1 l.o.2 cl yaa,yak l.o.2 cl.size⟩
 clear aP ay cl m az l;simp only;by_cases ae:j<D+a
 ·exact xbm
 exact xfd):Zp:=h
theorem xaq(h:Zp:=by
 obtain⟨⟨aw,ba,bb,bc,bo,aF⟩,bE,bm,bC,t,a7,ag,Y,HO⟩:=ad.op U aa m1 af m3 ah;clear ad;unfold MvC;go_enter func140,ntmps140;go_wp2_with fail;rw[a7.o];clear aw ba bb bc bo aF a7;refine fh (GC Y xaa ?_);clear Y;unfold MfK;intros;rename_i wc K;obtain⟨f,aC,cap',b,B,Y⟩:=K;obtain⟨_,_,aY,ar,aW,_,_,_,_⟩:=Y.o.g;go_wp2_with fail;refine(MS.lst Y.o xaa (show(f.length:Int)-1=(vs.length:Nat) by have:=b.o.2;omega)).mono ?_;clear Y aY ar aW;rintro e r ⟨rfl,Y⟩;obtain⟨_,_,aY,ar,aW,_,_,_,_⟩:=Y.o.g;go_wp2_with fail;refine(MS.orX Y.o _ _ xaa).mono ?_;clear Y aY ar aW;rintro e am ⟨vs2,j,d,z,a,cR,h,F,rfl,⟨_,bq⟩,⟨_,aq⟩,⟨_,aT⟩,bR,bS,bT,bx,Y⟩;go_wp2_with fail;rw[bx.o];clear bx bq aq aT bR bS bT;obtain⟨_,_,aY,ar,aW,_,_,_,_⟩:=Y.o.g;go_wp2_with fail;refine(MS.orX Y.o _ _ xaa).mono ?_;clear Y aY ar aW;rintro e am ⟨ao,x,n,v,k,cR,l,u,rfl,⟨_,bq⟩,⟨_,aq⟩,⟨_,aT⟩,bR,bS,bT,bx,Y⟩;go_wp2_with fail;rw[bx.o];clear bx bq aq aT bR bS bT;refine fh (xP Y xaa ?_);clear Y;unfold MfK;intros;rename_i wc K;obtain⟨g,aC,cap',I,bM,Y⟩:=K;go_wp2_with fail;have bU:=Hl xaa xaa b.o.1 h.o l.o I.o.1;exact no_implicit_lambda% xbn):Zp:=h
theorem xar(h:Zp:=by
 obtain⟨k,O,rfl,aL⟩:=hrel;by_cases y:k<15
 ·exact xbv
 exact xby):Zp:=h
theorem xas(h:Zp:=by
 clear al h2 ao g m J;go_wp2_with (first|(go_at_call 68;refine yaj (j.o _) ?_;rintro e am ⟨rfl,rfl⟩)|(go_at_call 19;refine yaj (ca.o _) ?_;rintro e am ⟨rfl,rfl⟩));refine yaj (HO.o _) ?_;rintro e am ⟨u,rfl,a6,h,bx⟩;have HZ:V (u<18446744073709551616/\fb u=fb (gS op C K l N P k)):=⟨a6,by rw[h,HE.o]⟩
 replace br:V _:=Grow.drawn br.o bx;clear a6 h bx;exact xaj):Zp:=h
theorem xat(h:Zp:=by
 obtain⟨bx,cr⟩:=cI.o aW J rfl;have d6:¬((J:Int)<0):=xaa;have af:V _:=cO.o aW J rfl;have cJ:V _:=j.o.trans bx
 have cW:V (∀i∈xs++[J],i<aW.vs.length):=by
  exact xcw
 go_upto_region 41 with (go_at_call 112;refine yaj bW.o ?_;rintro e bA ⟨rfl,aJ,y2,y3,y4,ab,bK⟩);have HFn:V _:=FtI.step aB.o bP.o bf.o.row ab bK;have cG:V (ax.heap.size<=bA.heap.size):=by show _<=_;have:=aB.o.chg.size;have:=bK.chg.size;omega
 have cN:V _:=cJ.o.m;have aH:(bA.alloc (.cells #[h1 J] 3)).cell? ⟨bA.heap.size,0,none⟩=some (h1 J):=by rw[yav];rfl
 have aN:=eA 0 0 bA (.cells #[h1 J] 3);have br:V _:=HFn.o.keep aN;clear HFn bf aB bP cM cI bW cH cO y ab bK j O bz bx;go_wp2_with (first|(at_builtin;refine jz _ rfl _ _ rfl ax.heap.size _ xs rfl br.o.row ⟨bA.heap.size,0,none⟩ J rfl aH ?c2 ?c3 ?_)|fail)
 case c2=>have:=ao.o;omega
 case c3=>have:=cG.o;simp;omega
 intro g9 cap9 n9 bn an b9 bF ch;have R1:V _:=FtI.app (st:=aW) (bE.o.keep HK.o) cN.o br.o b9 bF (ch.imp id (λe=>by rw[e];simp));exact xct):Zp:=h
theorem xau(h:Zp:=by
 clear Y;unfold MfK;intros;rename_i wc K;obtain⟨f,aC,cap',b,B,Y⟩:=K;obtain⟨_,_,aY,ar,aW,_,_,_,_⟩:=Y.o.g;go_wp2_with fail;refine(MS.lst Y.o xaa (show(f.length:Int)-1=(vs.length:Nat) by have:=b.o.2;omega)).mono ?_;clear Y aY ar aW;rintro e r ⟨rfl,Y⟩;have aw:=Y.o.v.c0;have a:(0:Int)<=(vs.length:Nat):=xaa;obtain⟨_,_,aY,ar,aW,_,_,_,_⟩:=Y.o.g;obtain⟨_,bl,aS,a9,bF,bB,bG⟩:=Y.o.b;go_wp2_with fail;obtain⟨bh,aJ,y2⟩:=fd _ _ _ _ _ bl aS a9 (.slice U m1 af) (h0 aC f.length cap') (.slice aa m3 ah);exact yaz (by simp[results,results140,go_sem,bh,aJ,y2]) rfl (MS.fin Y.o iv (by rw[b.o.1]<;>simp))):Zp:=h
theorem xav(h:Zp:=by
 go_upto_region 31 with fail;obtain⟨_,bl,aS,a9,_,_,_⟩:=au.o.bx;obtain⟨_,bq,aq,aT,bR,bS,bT⟩:=au.o.rs;go_wp2_with fail;obtain⟨bH,bk,p2⟩:=fd _ _ _ _ _ bq aq aT (.slice a1 ins.length c1) (h0 g vs.length c2) (.slice a3 outs.length c3);exact yaz (v:=eX a1 ins.length c1 (some ⟨g,0,none⟩) vs.length c2 a3 outs.length c3) (by simp[results,results95,go_sem,bH,bk,p2]) rfl Y.o):Zp:=h
theorem xaw(h:Zp:=by
 go_roundw;exact⟨k+1,by omega,by go_num,R⟩;simp[intOf];omega):Zp:=h
theorem xax(h:Zp:=by
 obtain⟨⟨aw,ba,bb,bc,bo,aF⟩,bE,bm,bC,t,a7,ag,Y,HO⟩:=ad.op U aa m1 af m3 ah;clear ad;unfold MvC;go_enter func140,ntmps140;go_wp2_with fail;rw[a7.o];clear aw ba bb bc bo aF a7;obtain⟨_,_,aY,ar,aW,_,_,_,_⟩:=Y.o.g;refine(MS.orX Y.o _ _ xaa).mono ?_;clear Y aY ar aW;rintro e am ⟨f,m,k,cN,g,cR,b,B,rfl,⟨_,bq⟩,⟨_,aq⟩,⟨_,aT⟩,bR,bS,bT,bx,Y⟩;go_wp2_with fail;rw[bx.o];clear bx bq aq aT bR bS bT;obtain⟨_,_,aY,ar,aW,_,_,_,_⟩:=Y.o.g;go_wp2_with fail;refine(MS.orX Y.o _ _ xaa).mono ?_;clear Y aY ar aW;rintro e am ⟨vs2,j,d,z,a,cR,h,F,rfl,⟨_,bq⟩,⟨_,aq⟩,⟨_,aT⟩,bR,bS,bT,bx,Y⟩;go_wp2_with fail;rw[bx.o];clear bx bq aq aT bR bS bT;refine fh (xP Y xaa ?_);clear Y;unfold MfK;intros;rename_i wc K;obtain⟨ao,aC,cap',l,u,Y⟩:=K;go_wp2_with fail;have bU:=Hk xaa xaa b.o h.o l.o.1;exact no_implicit_lambda% xbn):Zp:=h
theorem xay(h:Zp:=by
 intros;rename_i HK;have bf:V (∀ax,Kept 0 0 W ax->_):=λax k=>MS.call Y.o k (eJ 5 a5 N X 0) xaa;have aY:=Y.o.g.c0;have ar:=Y.o.g.c1;have aW:=Y.o.g.c2;have bc:=Y.o.v.c3;have b:V (∀W:World,_):=λW=>iY W U J aa m1 af vs.length cap m3 ah xaa;rw[bI]at b;clear bI;conv=>arg 2;whnf
 go_region_with (first
  |(go_at_call 78;refine yaj (bf.o _ (((eF W).trans u).trans an)) ?_;rintro e am ⟨aC,cap',rfl,⟨u0,bq⟩,⟨u1,aq⟩,⟨u2,aT⟩,ak,_,aG⟩;have bR:=ak 0;have bS:=ak 1;have bT:=ak 2;clear ak)
  |(go_at_call 85;refine yaj (b.o _) ?_;rintro e r ⟨rfl,u⟩;have bQ:=(MS.keep Y.o ((eF W).trans u)).g.c0;have b6:=(MS.keep Y.o ((eF W).trans u)).g.c1;have cf:=(MS.keep Y.o ((eF W).trans u)).g.c2;have bu:=(MS.keep Y.o ((eF W).trans u)).v.c3)
  |(go_at_call 79;refine yaj (gG _ _ _ _ _ _) ?_;rintro e aH ⟨rfl,an⟩;have bH:=(MS.keep Y.o (((eF W).trans u).trans an)).g.c0;have bk:=(MS.keep Y.o (((eF W).trans u).trans an)).g.c1;have p2:=(MS.keep Y.o (((eF W).trans u).trans an)).g.c2))
 all_goals exact HK _ ⟨_,_,_,⟨rfl,by simp⟩,by simp,aG⟩):Zp:=h
theorem xaz(h:Zp:=by
 go_upto_region 24 with fail;clear c1;exact xag):Zp:=h
theorem xba(h:Zp:=by
 refine⟨⟨#[102,105,108,108,40]⟩++ar++⟨#[44,32]⟩++aW++⟨#[41]⟩,bm,fU (by grind[fO]) xab λz X W au=>?_⟩;repeat (rw[yar]at z;refine sz2 z ?_;clear z;intro _ z)
 exact xak):Zp:=h
theorem xbb(h:Zp:=by
 generalize W.heap.size=a7 at T⊢;have bL:=T.o.c0;clear c0 c1 c2 j af;go_upto_region 22 with fail;have aV:=T.o.c2;have N:=Lib.run_convert_string_bytes (P:=prog) ax 9 22 5 ⟨a8.toArray⟩ underlying9 underlying22 underlying5;have aX:V _:=qO ax 5 a8;have bQ:V _:=mS ax 5 ⟨a8.toArray⟩;have b2:(⟨a8.toArray⟩:ByteArray).size=a8.length:=rfl;rw[b2]at N;have B:(convert 9 22 (eK a8)).run prog ax=_:=N;clear N b2;generalize Lib.bytesWorld ax 5 ⟨a8.toArray⟩=bo at B aX bQ;generalize ax.heap.size=aa at B aX;generalize grownCap ax a8.length 0 5=aK at B;go_upto_region 23 with (go_at_call 98;refine yaj (rA bo _ _ _ _ aX.o xaa) ?_;rintro e bA ⟨f,c,rfl,K,bx⟩);obtain⟨rfl,rfl⟩:=rJ HN.o K;have a0:V _:=bQ.o.trans (bx.kept 0 0);have U:=(T.o.keep a0.o).c1;have bM:V _:=al.o bA (HK.o.trans a0.o);clear al aX bQ B bx K bL aV T a0 HK HN;generalize oL a8=nk at bM;go_wp2_with (go_at_call 115;refine yaj bM.o ?_;rintro e bD ⟨⟨x,rfl⟩,bm⟩);go_ret;exact bm.o):Zp:=h
theorem xbc(h:Zp:=by
 have bf:V _:=ki ((aD.o _ J.o.k).cut (i:=i) b.o.2) (cap-i);have ab:=b.o.1;have bP:(0:Int)<=i:=xaa;have aR:(i:Int)<=k:=xaa;have bd:(k:Int)<=cap:=ix b.o.2
 have af:((k:Int)-i).toNat=k-i:=xaa;have y2:=J.o.t.c2;have y3:=J.o.t.fr 2;have al:=bf.o;go_upto_region 25 with fail;change Code.wp _ _ _ _ (wr.setCell _ (eK _));have d:V _:=J.o.text (kN t i k);clear bf al y2 y3 ab bP aR bd af;generalize wr.setCell _ _=ax at d⊢;generalize ap:kN t i k=x at d;have HX:V _:=ap;clear ap;obtain⟨_,bq,aq,aT,ak⟩:=d.o.r;obtain⟨_,bl,aS,a9,a⟩:=d.o.t;have bR:=ak 0;have bS:=ak 1;have bT:=ak 2;have R:V _:=d.o.fin;clear ak a d;go_wp2_with fail;change bodyPost _ _ _ _ _ (((ax.setCell _ (eK _)).setCell _ _).setCell _ (eK x));generalize ((ax.setCell _ _).setCell _ _).setCell _ _=ca at R⊢;obtain⟨⟨_,bN,f1,f2,_⟩,r⟩:=R.o;refine yaz (v:=.tuple #[.agg #[eK kO,h1 i,eK x],h1 k]) (by simp[results,results108,go_sem,bN,f1,f2]) rfl ⟨?_,r⟩;rw[bO.o.1,bO.o.2,HX.o];rfl):Zp:=h
theorem xbd(h:Zp:=by
 rintro e am ⟨zs,rfl,(Y:V _)⟩;go_wp2;go_ret;exact Made.kres ⟨zs,rfl,Y.o⟩ G.o λk _=>by simp[gS]):Zp:=h
theorem xbe(h:Zp:=by
 go_region_law (fail)
 all_goals
  generalize (bo.setCell ⟨g,_,_⟩ _).drew=cc at au Y⊢
  obtain⟨_,bl,aS,a9,_,_,_⟩:=au.o.bx
  obtain⟨_,bq,aq,aT,bR,bS,bT⟩:=au.o.rs
  go_wp2_with fail
  obtain⟨bH,bk,p2⟩:=fd _ _ _ _ _ bq aq aT (.slice a1 ins.length c1) (h0 g vs.length c2) (.slice a3 outs.length c3)
  exact yaz (v:=eX a1 ins.length c1 (some ⟨g,0,none⟩) vs.length c2 a3 outs.length c3) (by simp[results,results95,go_sem,bH,bk,p2]) rfl Y.o):Zp:=h
theorem xbf(h:Zp:=by
 refine⟨ar,bm,fU xaa xab λz X W au=>?_⟩;repeat (rw[yar]at z;refine sz2 z ?_;clear z;intro _ z)
 exact xak):Zp:=h
theorem xbg(h:Zp:=by
 obtain⟨⟨aw,ba,bb,bc,bo,aF⟩,bE,bm,bC,t,a7,ag,Y,HO⟩:=ad.op U aa m1 af m3 ah;clear ad;unfold MvC;go_enter func140,ntmps140;go_wp2_with fail;rw[a7.o];clear aw ba bb bc bo aF a7;refine fh (xU Y xaa ?_);exact no_implicit_lambda% xau):Zp:=h
theorem xbh(h:Zp:=by
 go_wp2_with fail;exact xbk):Zp:=h
theorem xbi(h:Zp:=by
 obtain⟨⟨aw,ba,bb,bc,bo,aF⟩,bE,bm,bC,t,a7,ag,Y,HO⟩:=ad.op U aa m1 af m3 ah;clear ad;unfold MvC;go_enter func140,ntmps140;go_wp2_with fail;exact yaz (by simp[results,results140,go_sem]) rfl (tD HO.o (((eA 0 0 w _).trans (eA 0 0 _ _)).trans (eA 0 0 _ _)) _)):Zp:=h
theorem xbj(h:Zp:=by
 clear Y;unfold PfK;intros;rename_i wc K;obtain⟨ao,aC,cap',l,u,Y⟩:=K;go_wp2_with fail;refine fh (kB Y xaa (show(ao.length:Int)-1=((vs.length:Nat)+2) by have:=b.o.2;have:=h.o.2;have:=l.o.2;omega) ?_);unfold PfK;intros;rename_i aU K;obtain⟨bh,aJ,y2,HR⟩:=K;go_wp2_with fail;exact yaz (by simp[results,results139,go_sem,bh,aJ,y2]) rfl (MS.finPR Y.o HR.o (by rw[l.o.1,h.o.1,b.o.1]<;>simp))):Zp:=h
theorem xbk(h:Zp:=by
 obtain⟨_,aP,ay,aB,_,_,_⟩:=au.o.bx;have al:=bf.o;go_region_with (first|(go_at_call 78;refine yaj (aD.o _ _ _ _ _ _ _ z.o a6.o _ aZ) ?_;rintro e am ⟨aC,cap',rfl,a0,aH⟩;obtain⟨_,bq,aq,aT,bR,bS,bT⟩:=a0)|(go_at_call 79;refine yaj (gG _ _ _ _ _ _) ?_;rintro e aU ⟨rfl,aZ⟩;obtain⟨_,aY,ar,aW,_,_,_⟩:=(z.o.keep aZ).bx)|(go_at_call 14;refine yaj (au.o.keep (eF _)).next ?_;rintro e a7 ⟨rfl,(z:V _),bY⟩;have a6:V _:=HK.o.trans ((e8 (eF _)).trans bY);obtain⟨_,bP,aR,bd,_,_,_⟩:=z.o.bx;clear bY))
 all_goals
  go_wp2_with fail
  obtain⟨bl,aS,a9⟩:=fd am (w.heap.size+1) _ _ _ bq aq aT (.slice a1 Z c1) (h0 aC (vs.length+1) cap') (.slice a3 ab c3)
  exact yaz (v:=eX a1 Z c1 (some ⟨aC,0,none⟩) (vs.length+1) cap' a3 ab c3) (by simp[results,results81,go_sem,bl,aS,a9]) rfl aH):Zp:=h
theorem xbl(h:Zp:=by
 unfold MfK;intros;rename_i aU K;obtain⟨bh,aJ,y2,HR⟩:=K;go_wp2_with fail;exact yaz (by simp[results,results140,go_sem,bh,aJ,y2]) rfl (MS.finR Y.o HR.o (by rw[b.o.1]<;>simp))):Zp:=h
theorem xbm(h:Zp:=by
 have aW:=r.o.at_ j xaa;have aR:=r.o.free j;have R1:V (BL (cq.setCell ⟨g,j,none⟩ (.bool true)) g n (jc ss i s ((j+1:Nat):Int))):=BL.congr (BL.set r.o j xaa) (λk _=>uN ss i s j k xaa);have aX:=eU (lo:=g) (hi:=g+1) cq ⟨g,j,none⟩ (.bool true) yac;have R2:V _:=Kept.trans v.o aX;have R3:V (AtP (cq.setCell ⟨g,j,none⟩ (.bool true)) P 0 (Spn.mk s.dst s.len)/\P<(cq.setCell ⟨g,j,none⟩ (.bool true)).heap.size):=⟨AtP.keep u.o.1 u.o.2 aX (ix ax.o),yak u.o.2 aX.size⟩
 have aq:j<n:=xaa;generalize jc ss i s (j:Int) j=z at aW;clear r v u aX;go_wp2;go_roundw;exact⟨j+1,by omega,by omega,by go_num,R1,R3,R2⟩;simp[intOf];omega):Zp:=h
theorem xbn(h:Zp:=by
 have HE:V _:=bU;clear bU;refine fh (yu Y xaa (HE.o.2) ?_);unfold MfK;intros;rename_i aU K;obtain⟨bh,aJ,y2,HR⟩:=K;go_wp2_with fail;exact yaz (by simp[results,results140,go_sem,bh,aJ,y2]) rfl (MS.finR Y.o HR.o HE.o.1)):Zp:=h
theorem xbo(h:Zp:=by
 intros;rename_i HK;have bf:V (∀ax,Kept 0 0 W ax->_):=λax k=>MS.call Y.o k (eJ 3 a5 bj X 0) xaa;have aY:=Y.o.g.c0;have ar:=Y.o.g.c1;have aW:=Y.o.g.c2;have bb:=Y.o.v.c2;exact xao):Zp:=h
theorem xbp(h:Zp:=by
 rcases C with C|C<;>exact⟨⟨#[112,117,116,40]⟩++ar++⟨#[44,32]⟩++sv++⟨#[44,32]⟩++O++⟨#[41]⟩,ni bs bm,fU WkS ao λz X W au=>WkE⟩):Zp:=h
theorem xbq(h:Zp:=by
 go_region_with (first
  |(go_at_call 78;refine yaj (aD.o _ ((eF _).trans a5)) ?_;rintro e am ⟨us,aC,cap',rfl,br,a0,aH⟩;obtain⟨_,bq,aq,aT,bR,bS,bT⟩:=a0)
  |(go_at_call 79;refine yaj (gG _ _ _ _ _ _) ?_;rintro e X ⟨rfl,a5⟩;obtain⟨_,aP,ay,aB,_,_,_⟩:=(HD.o.keep ((eF _).trans a5)).bx))
 all_goals exact bZ.o (L2.of HSV.o br.o aH)):Zp:=h
theorem xbr(h:Zp:=by
 generalize W.alloc (.cells #[h1 2,h1 3,h1 4,h1 5,h1 7] 3)=ba at*;clear bl aS a9 B F ak;obtain⟨_,bl,aS,a9,B,F,ak⟩:=HD.o.bx;have av:0<=(c:Int)/8:=xaa;have t:IntKind.i64.wrap ((c:Int)/8)=(c:Int)/8:=by rw[IntKind.wrap_i64];omega
 have y:((c:Int)/8).tmod 5=(q:Int):=(Int.tmod_eq_emod_of_nonneg av).trans f;clear al ci Z ae l h2 g av f;exact xbq):Zp:=h
theorem xbs(h:Zp:=by
 unfold PfC;intros;rename_i HK;have bf:V (∀ax,Kept 0 0 W ax->_):=λax k=>MS.call Y.o k (eJ 4 a5 d i 0) xaa;exact xae):Zp:=h
theorem xbt(h:Zp:=by
 generalize f.vs.length=dT at*;generalize f.ins.length=b6 at*;generalize f.outs.length=cg at*;go_upto_region 33 with (go_at_call 136;refine yaj aA.o ?_;rintro e cq ⟨⟨U,n,aa,ad,J,be,rfl,ay,aB,bz,aP⟩,cl⟩);have bl:V (∀H,Kept 0 0 cq H->_):=λH aj=>bF.o H U n J be aa ad (cl.trans aj) (eN ay aj) (eN aB aj) (eN bz aj) aP;have cO:V (∀H,Kept 0 0 cq H->_):=λH aj=>(bw.o.keep (cl.trans aj)).c1;clear ay aB bz aP bF aA cI bH bk p2;have bi:=cO.o _ (eA 0 0 cq (fx U b6 n J g.length be aa cg ad));have aw:V _:=bl.o _ (eA 0 0 cq (fx U b6 n J g.length be aa cg ad));go_wp2_with (go_at_call 135;refine yaj aw.o ?_;rintro e bn ⟨⟨x,rfl⟩,bm⟩);go_ret;exact bm.o):Zp:=h
theorem xbu(h:Zp:=by
 go_wp2_with fail;exact xbw):Zp:=h
theorem xbv(h:Zp:=by
 have c1:=aL.o.c k y;have c2:=aL.o.n.t.c2;generalize l:keysL.getD k _=K at c1;go_upto_region 12 with fail;go_quiet (fail)
 have a0:V _:=aL.o.keep (eH 0 0 _ nq);clear c1 c2 aL;generalize wr.drewN _=cc at a0⊢;have y2:=a0.o.n.t.c0;have y3:=a0.o.n.t.fr 0;have y4:=a0.o.n.t.c2;cases aA:(K==x)
 ·exact xfc
 exact xfk):Zp:=h
theorem xbw(h:Zp:=by
 obtain⟨_,aP,ay,aB,_,_,_⟩:=au.o.bx;go_region_with (first|(go_at_call 78;refine yaj (aD.o _ _ _ _ _ _ _ au.o HK.o _ ((eF _).trans aZ)) ?_;rintro e am ⟨aC,cap',rfl,a0,aH⟩;obtain⟨_,bq,aq,aT,bR,bS,bT⟩:=a0)|(go_at_call 79;refine yaj (gG _ _ _ _ _ _) ?_;rintro e aU ⟨rfl,aZ⟩;obtain⟨_,aY,ar,aW,_,_,_⟩:=(au.o.keep ((eF _).trans aZ)).bx))
 all_goals
  go_wp2_with fail
  obtain⟨bl,aS,a9⟩:=fd am (w.heap.size+1) _ _ _ bq aq aT (.slice a1 Z c1) (h0 aC (vs.length+1) cap') (.slice a3 ab c3)
  exact yaz (v:=eX a1 Z c1 (some ⟨aC,0,none⟩) (vs.length+1) cap' a3 ab c3) (by simp[results,results81,go_sem,bl,aS,a9]) rfl aH):Zp:=h
theorem xbx(h:Zp:=by
 go_wp2_with fail;go_meet;exact⟨_,_,_,cp.o.box _ _,T.o.set xaa rfl⟩):Zp:=h
theorem xby(h:Zp:=by
 obtain rfl:k=15:=xaa;have ar:V _:=aL.o.n;rw[show sf x _=mA x from rfl]at ar;obtain⟨_,bq,aq,aT,ak⟩:=ar.o.r;obtain⟨_,bl,aS,a9,a⟩:=ar.o.t;have bR:=ak 0;have bS:=ak 1;have bT:=ak 2;have R:V _:=ar.o.fin;generalize G:mA x=au at bl R;have u:V _:=G;clear aL ak a ar G;go_wp2_with fail;change bodyPost _ _ _ _ _ (((wr.setCell _ (eK _)).setCell _ _).setCell _ (eK x));generalize ((wr.setCell _ _).setCell _ _).setCell _ _=ca at R⊢;obtain⟨⟨_,bN,f1,f2,_⟩,r⟩:=R.o;refine yaz (v:=.tuple #[.agg #[eK au,h1 i,eK x],h1 j]) (by simp[results,results108,go_sem,bN,f1,f2]) rfl ⟨?_,r⟩;rw[HX.o,u.o];rfl):Zp:=h
theorem xbz(h:Zp:=by
 have B:=Y.o.len1 hj m;have bE:0<=(j:Int):=xaa;have bm:(j:Int)<vs.length:=xaa;clear m;exact xad):Zp:=h
theorem xca(h:Zp:=by
 have aC:V (r=.error (c,p)):=by show _=_;rw[HR.o,cH.o _ rfl];rfl
 go_wp2_with (go_at_call 112;refine yaj bW.o ?_;rintro e bA ⟨rfl,bm⟩);go_ret;rw[aC.o];exact TrO.after cM.o ⟨rfl,bm⟩):Zp:=h
theorem xcb(h:Zp:=by
 clear g;exact xaj):Zp:=h
theorem xcc(h:Zp:=by
 obtain⟨⟨aw,ba,bb,bc,bo,aF⟩,bE,bm,bC,t,a7,ag,Y,HO⟩:=ad.op U aa m1 af m3 ah;clear ad;unfold PtC;go_enter func139,ntmps139;go_wp2_with fail;rw[a7.o];clear aw ba bb bc bo aF a7;refine fh (MW Y xaa ?_);exact no_implicit_lambda% xah):Zp:=h
theorem xcd(h:Zp:=by
 obtain⟨⟨aw,ba,bb,bc,bo,aF⟩,bE,bm,bC,t,a7,ag,Y,HO⟩:=ad.op U aa m1 af m3 ah;clear ad;unfold MvC;go_enter func140,ntmps140;go_wp2_with fail;rw[a7.o];clear aw ba bb bc bo aF a7;refine fh (MY Y xaa ?_);clear Y;unfold MfK;intros;rename_i wc K;obtain⟨f,aC,cap',b,B,Y⟩:=K;go_wp2_with fail;refine fh (MX Y xaa (show(f.length:Int)-1=(vs.length:Nat) by have:=b.o.2;omega) ?_);exact no_implicit_lambda% xbl):Zp:=h
theorem xce(h:Zp:=by
 obtain⟨⟨aw,ba,bb,bc,bo,aF⟩,bE,bm,bC,t,a7,ag,Y,HO⟩:=ad.op U aa m1 af m3 ah;clear ad;unfold PtC;go_enter func139,ntmps139;go_wp2_with fail;exact yaz (by simp[results,results139,go_sem]) rfl (xT HO.o (((eA 0 0 w _).trans (eA 0 0 _ _)).trans (eA 0 0 _ _)) _ _)):Zp:=h
theorem xcf(h:Zp:=by
 go_region_held3 (λB=>B.cell? ⟨Q,0,none⟩=some (h1 (jU s).op)/\B.cell? ⟨Q,1,none⟩=some (h1 (jU s).len)/\B.cell? ⟨Q,2,none⟩=some (h1 (jU s).a)/\B.cell? ⟨Q,3,none⟩=some (h1 (jU s).b)/\B.cell? ⟨Q,4,none⟩=some (h1 (jU s).c)/\B.cell? ⟨Q,5,none⟩=some (.float .f64 (jU s).k)) (go_keep) (first|(go_at_call 56;refine yaj (k.o 1) ?_;rintro e cd ⟨rfl,a5,cl⟩;obtain⟨_,⟨bP,aR,bd,bu,bC,ct⟩,_,_⟩:=FB.keep t.o cl;simp only[Nat.zero_add]at aR bd bu bC ct))
 all_goals
  go_wp2
  go_ret
  exact⟨i4 z.o,a5⟩):Zp:=h
theorem xcg(h:Zp:=by
 have bo:=Y.o.v.c4;exact xad):Zp:=h
theorem xch(h:Zp:=by
 go_wp2_with (first|(go_at_call 111;refine yaj (bT.o _ _ bQ.o) ?_;rintro e aU ⟨rfl,G⟩)|fail);exact xdu):Zp:=h
theorem xci(h:Zp:=by
 have ai:=tA ae.o;generalize Lib.bytesWorld wr 5 ⟨a8.toArray⟩=bo at B aX G;generalize wr.heap.size=aa at B aX;generalize grownCap wr a8.length 0 5=aK at B;go_upto_region 12 with (go_at_call 98;refine yaj (rA bo _ _ _ _ aX.o xaa) ?_;rintro e bA ⟨b4,c,rfl,K,bx⟩);obtain⟨_,rfl⟩:=rJ ae.o K;have au:V _:=(aG.o.trans G.o).trans (bx.kept 0 0);clear B aX G K bx aP aB ae;exact xdh):Zp:=h
theorem xcj(h:Zp:=by
 have aG:V (r=.error (c,p)):=by show _=_;rw[aC.o];unfold mK;rw[<-HQ.o]
 go_wp2_with (go_at_call 124;refine yaj v.o ?_;rintro e bA ⟨rfl,bm⟩);go_ret;rw[aG.o];exact⟨rfl,bm.1,bm.2.1,((Mv.of HK.o).trans aB.o).bad bm.2.2⟩):Zp:=h
theorem xck(h:Zp:=by
 go_roundw;exact⟨trivial,k+1,by omega,by go_num,R⟩;simp[intOf];omega):Zp:=h
theorem xcl(h:Zp:=by
 refine⟨aY,ni bs bE,fU xaa xab λz X W au=>?_⟩;repeat (rw[yar]at z;refine sz2 z ?_;clear z;intro _ z)
 exact xak):Zp:=h
theorem xcm(h:Zp:=by
 go_enter func131,ntmps131;go_wp2_with (first|(go_at_call 14;refine yaj HN.o ?_;rintro e aH ⟨rfl,aF,an,aR⟩)|(go_at_call 100;refine yaj (HD.o _) ?_;rintro e am ⟨rfl,rfl⟩));go_ret;exact⟨rfl,aF,an,aR⟩):Zp:=h
theorem xcn(h:Zp:=by
 go_wp2_with fail;go_roundw;exact⟨k+1,br,Y,by omega,by omega,by go_num,rfl,by rw[R.o],by omega,h,j,a7,K,aG⟩;simp[intOf];omega):Zp:=h
theorem xco(h:Zp:=by
 have a5:=T (j*6+0);rw[Nat.add_zero]at au Y a5;exact xav):Zp:=h
theorem xcp(h:Zp:=by
 clear aW r cM be;go_wp2_with fail;go_region
 all_goals
  go_wp2
  go_roundw;exact⟨am,S,j+1,rfl,rfl,by go_num,by omega,C,R,bm,ag.o.keep (eF _),Kept.drew t.o⟩;simp[intOf];omega):Zp:=h
theorem xcq(h:Zp:=by
 clear Y;unfold PfK;intros;rename_i wc K;obtain⟨vs2,aC,cap',h,F,Y⟩:=K;go_wp2_with fail;refine fh (kB Y xaa (show(vs2.length:Int)-1=((vs.length:Nat)+1) by have:=b.o.2;have:=h.o.2;omega) ?_);unfold PfK;intros;rename_i aU K;obtain⟨bh,aJ,y2,HR⟩:=K;go_wp2_with fail;exact yaz (by simp[results,results139,go_sem,bh,aJ,y2]) rfl (MS.finPR Y.o HR.o (by rw[h.o.1,b.o.1]<;>simp))):Zp:=h
theorem xcr(h:Zp:=by
 have aC:V (r=.error (c,p)):=by show _=_;rw[HR.o,HE.o _ rfl];rfl
 go_wp2_with (go_at_call 112;refine yaj b2.o ?_;rintro e aU ⟨rfl,bm⟩);go_ret;rw[aC.o];exact TrO.back HK.o ⟨rfl,bm⟩):Zp:=h
theorem xcs(h:Zp:=by
 refine⟨⟨_,_,_,_,aO,⟨bJ.bad ⟨aL.chg.os,aL.chg.tape,aL.chg.output,aL.chg.size,λi hi ag=>aL.chg.block i hi (λc=>ag (.inl c))⟩,λb hb=>?_⟩,λb hb c=>?_⟩,fe a8 aL.chg l⟩
 ·exact xfy
 exact xji):Zp:=h
theorem xct(h:Zp:=by
 clear b9 bF ch an aN aH;go_wp2_with fail;go_roundw;exact⟨k+1,aW,xs++[J],by omega,by omega,by go_num,by rw[yal,ao.o];rfl,af,R1,cJ,cW⟩;simp[intOf];omega):Zp:=h
theorem xcu(h:Zp:=by
 have aX:=fk H (w.heap.size+1) (.slice U Z af) (.slice J vs.length cap) (.slice aa ab ah);have hb:=h.hb
 have Y:∀{e size n:Nat}{v:Value}{xs:List _},W.ownsRow base e size v n xs->(fg H _ _ _ _).ownsRow w.heap.size e _ v n _:=λho=>
  gy (fD (eN ho k) aX (λg aK=>ix ((eG ho aK).1))) xaa
 exact⟨⟨Y h.i,Y h.g.own,Y h.o⟩,Kept.new (h.k.trans k) aX xaa⟩):Zp:=h
theorem xcv(h:Zp:=by
 clear Y;unfold MfK;intros;rename_i wc K;obtain⟨f,aC,cap',b,B,Y⟩:=K;go_wp2_with fail;refine fh (Hj Y xaa (show(f.length:Int)-1=(vs.length:Nat) by have:=b.o.2;omega) ?_);exact no_implicit_lambda% xbl):Zp:=h
theorem xcw(h:Zp:=by
 intro i hi;rcases List.mem_append.1 hi with hi|hi
 ·exact yak (O.o i hi) bx.n
 simp at hi;subst hi;exact cr):Zp:=h
theorem xcx(h:Zp:=by
 go_wp2;go_round
 case rel=>exact⟨k+1,by omega,by go_num,R⟩
 case measure=>simp[intOf];omega):Zp:=h
theorem xcy(h:Zp:=by
 rw[eM]at h;cases F:eM f st u a with
 |none=>rw[F]at h;cases h
 |some aq=>
  rw[F]at h;rcases aq with⟨c,p⟩|⟨ar,x⟩
  ·cases h;exact⟨_,rfl,rfl⟩
  cases h;exact⟨_,rfl,rfl⟩):Zp:=h
theorem xcz(h:Zp:=by
 have aN:=(D 0).1;have u:=(Vaa 0).1;rcases vE aY with⟨bl,a9⟩|⟨bl,a9⟩
 ·exact xbp
 exact xbp):Zp:=h
theorem xda(h:Zp:=by
 have aN:=(D 0).1;have u:=(Vaa 0).1;rcases vE aY with⟨bl,a9⟩|⟨bl,a9⟩
 ·exact xbp
 exact xgn):Zp:=h
theorem xdb(h:Zp:=by
 go_wp2_with (first|(go_at_call 111;refine yaj (bT.o _ _ aO.o) ?_;rintro e bA ⟨rfl,G⟩)|fail);go_ret;rw[R.o];exact⟨rfl,G.c5,G.c6,(Mv.of aO.o).bad G.chg⟩):Zp:=h
theorem xdc(h:Zp:=by
 clear l a0;go_wp2_with fail;exact xaw):Zp:=h
theorem xdd(h:Zp:=by
 clear hb;go_wp2;exact xck):Zp:=h
theorem xde(h:Zp:=by
 go_region_with (first
  |(go_at_call 79;refine yaj (gG _ _ _ _ _ _) ?_;rintro e aU ⟨rfl,aZ⟩;have b:=(y.o.keep ((eF am).trans aZ)).c1)
  |(go_at_call 115;refine yaj (HQ.o _ (bQ.o.trans ((eF am).trans aZ))) ?_;rintro e bA ⟨⟨x,rfl⟩,bm⟩))
 all_goals (go_wp2_with fail;go_ret;rw[R.o];exact bm.o)):Zp:=h
theorem xdf(h:Zp:=by
 have F:=E1.1;obtain⟨aW,ad,E2⟩:=G (1) xaa (bm);have h2:=E2.1;rcases vE aY with⟨bl,a9⟩|⟨bl,a9⟩
 ·exact xjf
 exact xga):Zp:=h
theorem xdg(h:Zp:=by
 go_wp2_with fail;go_quiet (fail)
 go_wp2;go_ret;exact⟨i4 z.o,Kept.trans R3.o (eH 0 0 _ _)⟩):Zp:=h
theorem xdh(h:Zp:=by
 go_wp2_with fail;go_roundw;exact⟨i+1,by omega,by go_num,au⟩;simp[intOf];omega):Zp:=h
theorem xdi(h:Zp:=by
 go_region_with (first
  |(go_at_call 79;refine yaj (gG _ _ _ _ _ _) ?_;rintro e aU ⟨rfl,aZ⟩;have b:=(y.o.keep ((eF am).trans aZ)).c1)
  |(go_at_call 115;refine yaj (al.o _ ((eF am).trans aZ)) ?_;rintro e bA ⟨⟨x,rfl⟩,bm⟩))
 all_goals (go_wp2_with fail;go_ret;exact bm.o)):Zp:=h
theorem xdj(h:Zp:=by
 go_region_with (first|(go_at_call 30;refine(bV.o _).mono ?_;rintro e am ⟨rfl,rfl⟩)|(go_at_call 54;refine(aj.o _).mono ?_;rintro e am ⟨rfl,rfl⟩)|(go_at_call 56;refine(a2.o 1).mono ?_;rintro e am ⟨rfl,O⟩))
 all_goals
  go_wp2_with fail
  go_meet
  exact⟨rfl,(eH 0 0 _ 1).trans O⟩):Zp:=h
theorem xdk(h:Zp:=by
 go_wp2_with (go_at_call 126;refine yaj b.o ?_;rintro e am ⟨rfl,G⟩);exact xes):Zp:=h
theorem xdl(h:Zp:=by
 rcases Ai K with⟨F,_⟩|⟨F,h2⟩
 ·exact xif
 exact xfn):Zp:=h
theorem xdm(h:Zp:=by
 have c:∀o,(fg aH _ _ _ _).cell? _=aH.cell? ⟨_,o,none⟩:=λo=>aX.cell aN (by simp_all);have cx:∀o,(fg aH _ _ _ _).frozen? _=aH.frozen? ⟨_,o,none⟩:=λo=>aX.frozen aN (by simp_all);exact⟨yak aN aX.size,by grind,by grind,by grind,by grind,by grind,by grind⟩):Zp:=h
theorem xdn(h:Zp:=by
 generalize (⟨_⟩:ByteArray)=d at HD a5⊢;exact xcm):Zp:=h
theorem xdo(h:Zp:=by
 have a:r.testBit i=false:=Nat.testBit_lt_two_pow (yak hb (ow xaa));have b:(2 ^ 63+r).testBit i=false:=Nat.testBit_lt_two_pow (yak (show 2 ^ 63+r<2 ^ 64 by omega) (ow xaa));rw[a,b,show decide _=false from yay xaa];rfl):Zp:=h
theorem xdp(h:Zp:=by
 go_enter func70,ntmps70;go_wp2;go_ret;exact⟨_,rfl,gF _ _ _ _,fV _ _ _ _,_,rfl⟩):Zp:=h
theorem xdq(h:Zp:=by
 clear be;go_enter func86,ntmps86;go_wp2_with fail;generalize a:(w.alloc (fx a1 Z cN (some ⟨a0,b9,none⟩) ae c2 a3 ab c3)).alloc (fW 0 len A I C K)=d at bQ aP ay aB bR aM bi aI r aC⊢;clear a;go_quiet (fail)
 go_wp2;go_ret;exact⟨rfl,bQ.o.trans (eH 0 0 _ _)⟩):Zp:=h
theorem xdr(h:Zp:=by
 go_wp2_with fail;go_roundw;exact⟨trivial,l+1,by omega,by go_num,by rw[R.o],by rw[R.o]⟩;simp[intOf];omega):Zp:=h
theorem xds(h:Zp:=by
 refine⟨h2.bad ⟨aj.os,aj.tape,aj.output,aj.size,λi hi ag=>aj.block i hi (λc=>ag (.inr c))⟩,λb hb=>?_⟩;rcases hb with c|c
 ·exact h2.new b (.inl c)
 exact xhf):Zp:=h
theorem xdt(h:Zp:=by
 go_wp2_with (go_at_call 112;refine yaj b2.o ?_;rintro e am ⟨rfl,bm⟩);go_ret;rw[HR.o];exact TrO.back HK.o ⟨rfl,bm⟩):Zp:=h
theorem xdu(h:Zp:=by
 go_ret;rw[R.o];exact⟨rfl,G.c5,G.c6,(Mv.of bQ.o).bad G.chg⟩):Zp:=h
theorem xdv(h:Zp:=by
 go_enter func62,ntmps62;go_wp2;go_ret;exact⟨rfl,rfl⟩):Zp:=h
theorem xdw(h:Zp:=by
 go_roundw;exact⟨k+1,by omega,by go_num,R3⟩;simp[intOf];omega):Zp:=h
theorem xdx(h:Zp:=by
 obtain⟨aP,ay,_,_,a0,cf⟩:=aw.o H aj;have X:=(ag.o.keep aj).lt;have c6:=yak ai aj.size;exact⟨(aK.cell (p:=⟨a7,1,none⟩) X bi).trans ay,(aK.cell (p:=⟨be,of,none⟩) c6 a2).trans a0,(aK.cell (p:=⟨be,of+1,none⟩) c6 a2).trans cf⟩):Zp:=h
theorem xdy(h:Zp:=by
 go_wp2_with (first|(go_at_call 19;refine yaj (aQ.o _) ?_;rintro e cn ⟨rfl,rfl⟩)|fail);clear aJ bP aR bd bu bC ct;go_roundw;exact⟨i-1,j+1,by go_num,ix ff.o,ix ff.o,R2⟩;simp[intOf];omega):Zp:=h
theorem xdz(h:Zp:=by
 rw[aZ]at aN;subst aN;rcases bw with c|c
 ·exact az _ O c
 have:=(eG ho O).2;omega):Zp:=h
theorem xea(h:Zp:=by
 clear f ai ag bj e;generalize eZ _=cv at HX a9 al;go_enter func130,ntmps130;go_wp2_with fail;refine yaj HX.o ?_;rintro e am ⟨rfl,av⟩;have R:V _:=Kept.trans HK.o av;clear av HX;go_wp2;go_ret;exact⟨rfl,R.o⟩):Zp:=h
theorem xeb(h:Zp:=by
 go_wp2;go_ret;exact⟨i4 R.o,R2.o,λh=>by rw[R.o]at h;cases h⟩):Zp:=h
theorem xec(h:Zp:=by
 go_wp2_with fail;refine yaj P.o ?_;rintro e cd ⟨rfl,(R1:V _),a5⟩;have R2:V _:=Kept.trans K.o a5;clear P a5;exact xew):Zp:=h
theorem xed(h:Zp:=by
 clear a;exact xdg):Zp:=h
theorem xee(h:Zp:=by
 go_enter func56,ntmps56;go_wp2;go_quiet ((first|(go_at_call 30;exact Calls.quiet_of_same (gX _ _))|(go_at_call 55;exact Calls.quiet_of_same (lA _ _ _))))
 go_wp2;go_ret;exact⟨rfl,(eA _ _ _ _).trans (eH _ _ _ _)⟩):Zp:=h
theorem xef(h:Zp:=by
 rintro e B ⟨rfl,rfl⟩;go_wp2;go_ret;exact⟨_,rfl,rfl,by omega,0,rfl⟩):Zp:=h
theorem xeg(h:Zp:=by
 clear O;go_wp2;go_ret;exact⟨_,rfl,(fV _ _ _ _).trans bE.o.symm,gF _ _ _ _,F.drw _,ax.trans (eH _ _ _ _)⟩):Zp:=h
theorem xeh(h:Zp:=by
 subst aN;have d:(Value.slice J (vs0++M.1).length cap).ownBlock≠some (w.heap.size+1):=i1 h.g.row h.n1
 exact⟨_,_,_,rfl,eI (eI (eI (eN h.g.own k) d) d) d,h.g.row,(h.s.keepQ k).new (fk _ _ _ _ _) xaa⟩):Zp:=h
theorem xei(h:Zp:=by
 rcases List.mem_append.1 a6 with c|c
 ·exact f.dg.k u c
 simp only[List.mem_singleton]at c;subst c;exact aN):Zp:=h
theorem xej(h:Zp:=by
 rcases hb with c|c|c|c|c
 ·exact .inl (.inl c)
 ·exact .inr (yao d (eG aq c).1)
 ·exact .inr (yao d (eG aT c).1)
 ·exact .inr (yao d (eG b8 c).1)
 exact .inl (.inr (.inr (.inr (.inr c))))):Zp:=h
theorem xek(h:Zp:=by
 unfold MfK;intros;rename_i aU K;obtain⟨bh,aJ,y2,HR⟩:=K;go_wp2_with fail;exact yaz (by simp[results,results140,go_sem,bh,aJ,y2]) rfl (MS.finR Y.o HR.o (by rw[l.o.1,h.o.1,b.o.1]<;>simp))):Zp:=h
theorem xel(h:Zp:=by
 have F:∀g,(Value.slice _ _ _).ownBlock=some g->R≠some g:=λg aK=>by rw[<-h.g.row];exact az g aK
 refine⟨F,λc=>?_,λg aK=>?_⟩
 ·have:=(eG ho c).1;have:=h.hb;omega
 rw[bM];exact a g (eG ho aK).2 (F g aK)):Zp:=h
theorem xem(h:Zp:=by
 have R:V (nK ss i n s=false):=by show _=_;unfold nK;rw[J];rfl
 have R2:V _:=(HK.o.mono (lo':=g) (hi':=g+1) λb _ c=>by omega)
 exact xeb):Zp:=h
theorem xen(h:Zp:=by
 go_wp2_with fail;exact xdw):Zp:=h
theorem xeo(h:Zp:=by
 go_upto_region 23 with fail;go_region
 all_goals (
  go_wp2_with fail
  refine yaz (v:=.tuple #[wW,h1 c,h1 p]) (by simp[results,results83,go_sem,bP,aR,y2]) rfl ?_
  rw[J.o]
  exact⟨rfl,R.o⟩)):Zp:=h
theorem xep(h:Zp:=by
 go_enter func125,ntmps125;go_wp2;go_ret;exact⟨rfl,rfl⟩):Zp:=h
theorem xeq(h:Zp:=by
 clear h aL;go_enter func66,ntmps66;go_wp2_with fail;refine yaj ch.o ?_;rintro e aH ⟨rfl,an⟩;obtain⟨_,aP,ay,aB⟩:=a7.keep an;clear a7;go_wp2;go_ret;exact⟨rfl,aG.o.trans an⟩):Zp:=h
theorem xer(h:Zp:=by
 go_wp2_with fail;refine(iw _ _ _ _ _ _ _ K).mono ?_;rintro e am ⟨rfl,h2,Q,hz2⟩;clear hz2;go_wp2;go_roundw;exact⟨j+1,by omega,by go_num,rfl,h2,a7.trans Q⟩;simp[intOf];omega):Zp:=h
theorem xes(h:Zp:=by
 go_ret;rw[HR.o];exact⟨rfl,G.c5,G.c6,(Mv.of HK.o).bad G.chg⟩):Zp:=h
theorem xet(h:Zp:=by
 have F:=bz.o;rw[yap (by rw[aV.o];decide),ap.o]at F;exact h8 F):Zp:=h
theorem xeu(h:Zp:=by
 go_enter func47,ntmps47;go_wp2;go_ret;exact⟨rfl,rfl⟩):Zp:=h
theorem xev(h:Zp:=by
 rcases Nat.lt_or_ge g W.heap.size with c|c
 ·exact c
 rw[Array.getElem?_eq_none c]at aV;cases aV):Zp:=h
theorem xew(h:Zp:=by
 go_wp2;go_roundw;exact⟨k+1,by omega,by go_num,R1,R2⟩;simp[intOf];omega):Zp:=h
theorem xex(h:Zp:=by
 rw[h7 c,h7 c];exact congrArg _ (gn _ (gD az k) (gD hb k))):Zp:=h
theorem xey(h:Zp:=by
 go_enter func18,ntmps18;go_wp2;go_ret;exact⟨rfl,aG⟩):Zp:=h
theorem xez(h:Zp:=by
 go_enter func22,ntmps22;go_wp2;go_ret;exact⟨rfl,aG⟩):Zp:=h
theorem xfa(h:Zp:=by
 rcases aK with c|c
 ·grind
 have:=f.rs.sz;have:=f.bx.sz;omega):Zp:=h
theorem xfb(h:Zp:=by
 rw[List.drop_succ_cons,List.drop_succ_cons,List.drop_zero,show ts++[c,n,q]=(ts++c::[n])++[q] by simp,List.take_append_of_le_length yag,yap yag]):Zp:=h
theorem xfc(h:Zp:=by
 have R:V _:=a0.o.miss y (by rw[l];intro c;rw[c]at aA;simp at aA);exact xdc):Zp:=h
theorem xfd(h:Zp:=by
 have R1:V (BL cq g n (jc ss i s (s.dst+s.len))):=by
  exact xje
 go_wp2;go_ret;exact⟨i4 R.o,v.o,λ_=>R1.o⟩):Zp:=h
theorem xfe(h:Zp:=by
 have:=R2.o;rw[<-a5.o,<-l.o]at this;rw[List.range_succ,List.map_append];exact this):Zp:=h
theorem xff(h:Zp:=by
 go_roundw;exact⟨k+1,by omega,by go_num,R1⟩;simp[intOf];omega):Zp:=h
theorem xfg(h:Zp:=by
 go_wp2_with fail;go_meet;exact⟨_,_,_,cp.o.peak _,T.o.keepC ((eU (lo:=w.heap.size) _ ⟨_,3,_⟩ _ yac).chg1 rfl) xaa⟩):Zp:=h
theorem xfh(h:Zp:=by
 go_roundw
 case rel=>
  exact xgx
 case measure=>simp[intOf];omega):Zp:=h
theorem xfi(h:Zp:=by
 clear bI af ai;go_wp2_with fail;go_quiet (fail)
 go_wp2;go_roundw;exact⟨k+1,by omega,by go_num,R,Kept.trans G.o (eH 0 0 _ _)⟩;simp[intOf];omega):Zp:=h
theorem xfj(h:Zp:=by
 rcases hb with h|h|h
 ·exact(eG aO.r1 h).2
 ·exact(eG aO.r2 h).2
 exact(eG aO.r3 h).2):Zp:=h
theorem xfk(h:Zp:=by
 have R:V _:=a0.o.hit y (by rw[l];simpa using aA);exact xdc):Zp:=h
theorem xfl(h:Zp:=by
 obtain⟨_,rfl⟩:=rJ z K;clear B aX G K bx aP ay aB ae z k;exact xdh):Zp:=h
theorem xfm(h:Zp:=by
 go_enter func26,ntmps26;go_wp2;go_ret;exact⟨i4 R.o,HK.o⟩):Zp:=h
theorem xfn(h:Zp:=by
 refine⟨?_,h2⟩;rcases F with⟨a1,J⟩|⟨a1,J,a3⟩<;>rcases bM with⟨U,aV⟩|⟨U,aV,aa⟩
 ·rw[J,aV]
 ·exact absurd U a1
 ·exact absurd a1 U
 rw[a3,aa]):Zp:=h
theorem xfo(h:Zp:=by
 rcases aw.row with c|⟨r,c,aF⟩
 ·exact .inl c.symm
 cases c;exact .inr aF):Zp:=h
theorem xfp(h:Zp:=by
 rintro (c|c|c|c|c)
 ·have:=h.lt;omega
 ·have:=(eG h.r1 c).2;omega
 ·have:=(eG h.r2 c).2;omega
 ·have:=(eG h.r3 c).2;omega
 have:=(eG h.r4 c).2;omega):Zp:=h
theorem xfq(h:Zp:=by
 go_enter func90,ntmps90;go_wp2_with fail;refine(oX _ _).mono ?_;exact xef):Zp:=h
theorem xfr(h:Zp:=by
 rw[e];go_enter func119,ntmps119;go_wp2;go_ret;exact⟨rfl,rfl⟩):Zp:=h
theorem xfs(h:Zp:=by
 clear aj;go_wp2_with fail;go_quiet (fail)
 go_wp2;go_ret;exact⟨by rw[R1.o,R.o];rfl,(bQ.o.trans (Drawn.kept HD.o 0 0)).trans (eH 0 0 _ _)⟩):Zp:=h
theorem xft(h:Zp:=by
 go_wp2_with fail;go_quiet ((go_at_call 55;exact Calls.quiet_of_same (aL.o _)))
 go_wp2;go_ret;exact⟨i4 z.o,HK.o.trans (eH 0 0 _ _)⟩):Zp:=h
theorem xfu(h:Zp:=by
 go_enter func56,ntmps56;go_wp2;go_ret;exact⟨rfl,eA _ _ _ _⟩):Zp:=h
theorem xfv(h:Zp:=by
 go_enter func57,ntmps57;go_wp2;go_ret;exact⟨rfl,eA _ _ _ _⟩):Zp:=h
theorem xfw(h:Zp:=by
 rw[ai]at Y;exact⟨_,_,rfl,⟨_,(e 0).trans F.g.c0⟩,⟨_,(e 1).trans F.g.c1⟩,⟨_,(e 2).trans F.g.c2⟩,λo=>by rw[x];exact F.g.free o,Y⟩):Zp:=h
theorem xfx(h:Zp:=by
 rw[show 0x7ff0000000000000=9218868437227405312 from rfl,e];refine⟨?_,No xaa⟩;rw[show f64.read _=_ from qn xaa xaa];rfl):Zp:=h
theorem xfy(h:Zp:=by
 rcases hb with c|c
 ·exact xho
 exact bJ.new b (.inr c)):Zp:=h
theorem xfz(h:Zp:=by
 rw[yai,yam ai]at h;simp only[Option.getD_some]at h;rw[yau ai];grind):Zp:=h
theorem xga(h:Zp:=by
 rcases C with C|C<;>exact⟨⟨#[106,118,112,40]⟩++ar++⟨#[44,32]⟩++aY++⟨#[44,32]⟩++aW++⟨#[41]⟩,ad,fU WkS ao λz X W au=>WkE⟩):Zp:=h
theorem xgb(h:Zp:=by
 go_wp2_with (go_at_call 112;refine yaj cp.o ?_;rintro e aU ⟨rfl,bm⟩);go_ret;rw[HR.o];exact TrO.after bV.o ⟨rfl,bm⟩):Zp:=h
theorem xgc(h:Zp:=by
 have F:=f.k0.size;have h2:=bp.size;rw[aj.block b xaa xaa,bp.block b xaa (λq=>by grind)];exact f.k0.block b hb ag):Zp:=h
theorem xgd(h:Zp:=by
 go_roundw
 case rel=>
  exact xie
 case measure=>simp[intOf];omega):Zp:=h
theorem xge(h:Zp:=by
 go_wp2_with (go_at_call 112;refine yaj b2.o ?_;rintro e aU ⟨rfl,bm⟩);go_ret;rw[HR.o];exact TrO.back bQ.o ⟨rfl,bm⟩):Zp:=h
theorem xgf(h:Zp:=by
 go_enter func30,ntmps30;go_wp2;go_ret;exact⟨rfl,rfl⟩):Zp:=h
theorem xgg(h:Zp:=by
 go_enter func55,ntmps55;go_wp2;go_ret;exact⟨rfl,rfl⟩):Zp:=h
theorem xgh(h:Zp:=by
 go_enter func72,ntmps72;go_wp2;go_ret;exact⟨rfl,rfl⟩):Zp:=h
theorem xgi(h:Zp:=by
 unfold plS;rw[aN];exact⟨λc=>by simp[c],λm c e=>by simp[c,e]⟩):Zp:=h
theorem xgj(h:Zp:=by
 rcases hb with c|c|c|c|c
 ·subst c;exact F.lt
 ·exact(eG F.r1 c).2
 ·exact(eG F.r2 c).2
 ·exact(eG F.r3 c).2
 exact(eG F.r4 c).2):Zp:=h
theorem xgk(h:Zp:=by
 rw[cS]at cr;go_wp2;go_roundw;exact⟨q+1,by omega,i4 cr.o,by go_num,R1,R2⟩;simp[intOf];omega):Zp:=h
theorem xgl(h:Zp:=by
 clear au G;go_wp2;go_roundw
 case rel=>exact⟨j,by omega,rfl,R,R2⟩
 case measure=>first|(simp[intOf];done)|(simp[intOf];omega)):Zp:=h
theorem xgm(h:Zp:=by
 clear t l bJ;go_wp2_with fail;refine yaj HD.o ?_;rintro e B ⟨rfl,rfl⟩;go_wp2;go_ret2
 exact⟨0,2,rfl,R.o,bE⟩):Zp:=h
theorem xgn(h:Zp:=by
 rcases C with C|C<;>exact⟨⟨#[103,114,97,100,40]⟩++ar++⟨#[44,32]⟩++aY++⟨#[41]⟩,bm,fU WkS ao λz X W au=>WkE⟩):Zp:=h
theorem xgo(h:Zp:=by
 have:=v.2.2;rw[aF]at this;exact yao this xaa):Zp:=h
theorem xgp(h:Zp:=by
 have F:=be.o;rw[show k=m by omega]at F;show inB ins xss=true;unfold inB;rw[HL.o.1,HL.o.2,F,decide_eq_true rfl];rfl):Zp:=h
theorem xgq(h:Zp:=by
 obtain⟨g,c,e,_,aK,_,be⟩:=nj h.g.own ag rfl;injection e with af bg ah;subst af;exact⟨g,rfl,h.g.row.symm,aK,be.at_⟩):Zp:=h
theorem xgr(h:Zp:=by
 rw[ah]at ai⊢;exact kH [x] xac ai rfl rfl (by simp[ce]) (by simp only[List.map_cons,List.map_nil,z];simp[eQ,aC])):Zp:=h
theorem xgs(h:Zp:=by
 have e:b=g:=by simpa[Value.ownBlock] using h.symm
 subst e;exact xfa):Zp:=h
theorem xgt(h:Zp:=by
 clear bO bl;go_wp2_with fail;go_roundw;exact⟨j+1,by omega,by go_num,a0,R⟩;simp[intOf];omega):Zp:=h
theorem xgu(h:Zp:=by
 intro b hb aN;simp[Value.ownBlock]at hb;subst hb;rcases az with c|c
 ·exact f.ne g c aN
 have:=(eG f.pv aN).2;omega):Zp:=h
theorem xgv(h:Zp:=by
 intro b hb aN;simp[Value.ownBlock]at aN;subst aN;rcases az with c|c
 ·exact f.ne _ hb c
 have:=(eG f.pu hb).2;omega):Zp:=h
theorem xgw(h:Zp:=by
 clear B aX G;go_wp2_with fail;go_roundw;exact⟨i+1,by omega,by go_num,aG⟩;simp[intOf];omega):Zp:=h
theorem xgx(h:Zp:=by
 obtain⟨S',f,bB,bG,b3,cu⟩:=ad.o v aC cap' _ b5 aH hlt bf.o;exact⟨av+1,S',f,by omega,by go_num,bB,bG,b3,cu⟩):Zp:=h
theorem xgy(h:Zp:=by
 go_wp2_with (go_at_call 112;refine yaj Z.o ?_;rintro e am ⟨rfl,bm⟩);go_ret;rw[HR.o];exact⟨rfl,bm⟩):Zp:=h
theorem xgz(h:Zp:=by
 go_wp2;go_roundw;exact⟨j+1,_,_,by omega,by go_num,rfl,by go_num,R,d⟩;simp[intOf];omega):Zp:=h
theorem xha(h:Zp:=by
 go_wp2;go_roundw
 case rel=>exact⟨trivial,j,by omega,by go_num,HR⟩
 case measure=>simp[intOf];have:=bv.o;omega):Zp:=h
theorem xhb(h:Zp:=by
 clear hb;go_wp2_with fail;go_roundw;exact⟨k+1,by omega,by go_num,HR⟩;simp[intOf];omega):Zp:=h
theorem xhc(h:Zp:=by
 clear ao bI;go_wp2;go_roundw;exact⟨q+1,by omega,by go_num,R,az⟩;simp[intOf];omega):Zp:=h
theorem xhd(h:Zp:=by
 go_wp2_with (go_at_call 128;refine yaj b2.o ?_;rintro e bA ⟨⟨x,rfl⟩,bm⟩);go_ret;exact bm.o):Zp:=h
theorem xhe(h:Zp:=by
 go_wp2;go_roundw;exact⟨j+1,by omega,by have:=b8.o;go_num,R1⟩;simp[intOf];omega):Zp:=h
theorem xhf(h:Zp:=by
 rw[aZ]at c;subst c;rcases br with e|e
 ·exact h2.new g9 (.inr e)
 exact .inr (ix h2.chg.size)):Zp:=h
theorem xhg(h:Zp:=by
 clear ap be;exact xcx):Zp:=h
theorem xhh(h:Zp:=by
 unfold vd;rw[yai,yai,List.getElem?_map];cases vs[j]?<;>rfl):Zp:=h
theorem xhi(h:Zp:=by
 clear be;exact xcx):Zp:=h
theorem xhj(h:Zp:=by
 obtain⟨⟨ba,bb,bc,bo,F,h2,h3⟩,h4⟩:=h;exact⟨⟨_,_,_,_,F.keep k,h2.keep k,h3⟩,eN h4 k⟩):Zp:=h
theorem xhk(h:Zp:=by
 have R2:V _:=Kept.trans HK.o G.o;clear be G;go_wp2;go_ret;exact⟨i4 R.o,R2.o⟩):Zp:=h
theorem xhl(h:Zp:=by
 rintro b (h|h|h)
 ·exact f.nr b (.inl h)
 ·grind[Value.ownBlock]
 exact f.nr b (.inr (.inr h))):Zp:=h
theorem xhm(h:Zp:=by
 go_roundw;exact⟨trivial,j+1,by omega,by go_num,R⟩;simp[intOf];omega):Zp:=h
theorem xhn(h:Zp:=by
 go_wp2;exact xff):Zp:=h
theorem xho(h:Zp:=by
 rcases aL.new b c with d|d
 ·exact bJ.new b (.inl d)
 exact .inr (yao bJ.chg.size d)):Zp:=h
theorem xhp(h:Zp:=by
 rw[yai,yam hi]at h;grind[List.set_getElem_self]):Zp:=h
theorem xhq(h:Zp:=by
 have:=((ak.nb i hi).mv au).weak (M':=Mst P ba bb bc bo) (λb hb=>.inl hb);rw[al];exact this):Zp:=h
theorem xhr(h:Zp:=by
 rw[Nat.testBit_two_pow_add_gt hi,show decide _=false from yay xaa];simp):Zp:=h
theorem xhs(h:Zp:=by
 go_wp2_with fail;refine yaj HD.o ?_;rintro e B ⟨rfl,rfl⟩;go_wp2;grind[intOf]):Zp:=h
theorem xht(h:Zp:=by
 subst ah;obtain⟨aE,cE,a6⟩:=au.o.form;subst a6;go_upto_region 30 with fail;exact WkM):Zp:=h
theorem xhu(h:Zp:=by
 have R2:V _:=Kept.trans HK.o a0.o;go_wp2;go_ret;exact⟨i4 R.o,R2.o⟩):Zp:=h
theorem xhv(h:Zp:=by
 rintro e am ⟨aC,cap',rfl,own,s⟩;rw[h.g.row]at s;exact⟨_,_,rfl,h.next k own s⟩):Zp:=h
theorem xhw(h:Zp:=by
 rw[eV _ _ _ _ _ _ (.inl bO),eV _ _ _ _ _ _ (.inl bO),eV _ _ _ _ _ _ (.inl bO)];exact k):Zp:=h
theorem xhx(h:Zp:=by
 go_wp2;go_ret;rw[l.o];exact⟨_,rfl,aX.o,bc,HR.o.drw _,a7.trans (eH _ _ _ _)⟩):Zp:=h
theorem xhy(h:Zp:=by
 simp only[List.append_nil];exact⟨_,_,_,rfl,eN h k,rfl,(StQ.refl _ _ w).keepQ k⟩):Zp:=h
theorem xhz(h:Zp:=by
 clear ak F h2;exact xep):Zp:=h
theorem xia(h:Zp:=by
 split
 ·exact .err xab
 split
 ·exact .err xab
 exact kJ _ _ _):Zp:=h
theorem xib(h:Zp:=by
 have:=be.o;rw[yap (i3 HL.o)]at this;exact this):Zp:=h
theorem xic(h:Zp:=by
 go_enter func25,ntmps25;go_wp2;go_ret;exact⟨i4 HR.o,rfl⟩):Zp:=h
theorem xid(h:Zp:=by
 have:(ad.toList.take (n*1))[k]? =(xs.map (Value.int .i64))[k]?:=by rw[bX]
 grind):Zp:=h
theorem xie(h:Zp:=by
 refine⟨k+1,by omega,by go_num,?_,?_⟩
 ·rw[HQ.o]
 rw[HQ.o];exact Q.o):Zp:=h
theorem xif(h:Zp:=by
 exfalso;rcases bM with⟨h3,_⟩|⟨_,h3,_⟩
 ·exact h3 F.1
 have:=F.2;omega):Zp:=h
theorem xig(h:Zp:=by
 unfold val;rw[Nat.pow_zero,Nat.mul_one,Nat.mul_assoc,Nat.pow_sub_mul_pow 2 h]):Zp:=h
theorem xih(h:Zp:=by
 go_enter func70,ntmps70;go_wp2;go_ret;exact⟨_,rfl,bp,rfl,0,rfl⟩):Zp:=h
theorem xii(h:Zp:=by
 rw[yai,yam O]at t;simpa using t):Zp:=h
theorem xij(h:Zp:=by
 go_enter func3,ntmps3;go_wp2;go_ret;exact⟨rfl,iv⟩):Zp:=h
theorem xik(h:Zp:=by
 refine⟨?_,?_,?_,?_,?_,?_,?_⟩;all_goals first|(go_simp;done)|(simp;done)):Zp:=h
theorem xil(h:Zp:=by
 clear a5;exact xdv):Zp:=h
theorem xim(h:Zp:=by
 rw[e];go_enter func110,ntmps110;go_wp2;go_ret;exact⟨rfl,rfl⟩):Zp:=h
theorem xin(h:Zp:=by
 refine wp_mono h ?_;intro e am B aA;cases e<;>first|exact aA|exact aA.elim):Zp:=h
theorem xio(h:Zp:=by
 refine(aj.block b xaa xaa).trans ?_;exact f.k0.block b hb ag):Zp:=h
theorem xip(h:Zp:=by
 go_wp2;go_ret;exact⟨_,rfl,by rw[ba,show k=10 by omega],ai,_,rfl⟩):Zp:=h
theorem xiq(h:Zp:=by
 rintro e B ⟨rfl,rfl⟩;go_wp2;go_ret;exact⟨_,rfl,rfl,ap,0,rfl⟩):Zp:=h
theorem xir(h:Zp:=by
 have F:=f.bz;have bK:=bj.size;have b3:=aB.size;have bZ:=a.size;omega):Zp:=h
theorem xis(h:Zp:=by
 go_wp2_with fail;go_meet;exact⟨_,_,r,_,_,_,rfl,rfl,rfl,cx,R2,R3⟩):Zp:=h
theorem xit(h:Zp:=by
 go_enter func61,ntmps61;go_wp2;go_ret;exact⟨rfl,rfl⟩):Zp:=h
theorem xiu(h:Zp:=by
 go_enter func54,ntmps54;go_wp2;go_ret;exact⟨rfl,rfl⟩):Zp:=h
theorem xiv(h:Zp:=by
 intro i hi c;by_cases e:i=k
 ·grind
 exact h.digit i xaa c):Zp:=h
theorem xiw(h:Zp:=by
 clear aj;go_wp2;go_ret;exact⟨i4 R.o,Kept.refl _ _ _⟩):Zp:=h
theorem xix(h:Zp:=by
 clear aQ ba be cc;go_wp2;go_ret;exact⟨i4 R.o,R2.o⟩):Zp:=h
theorem xiy(h:Zp:=by
 unfold inB;rw[HL.o.1,HL.o.2,yay al,Bool.false_and]):Zp:=h
theorem xiz(h:Zp:=by
 go_wp2_with fail;go_meet;exact⟨_,_,_,_,_,_,_,i1 e u⟩):Zp:=h
theorem xja(h:Zp:=by
 obtain⟨g,e,F,h2,h3⟩:=ad.o ak;exact⟨g,e,F,h2.keep aZ,h3⟩):Zp:=h
theorem xjb(h:Zp:=by
 rintro e B ⟨rfl,rfl⟩;go_wp2;go_ret;exact⟨rfl,eA _ _ _ _⟩):Zp:=h
theorem xjc(h:Zp:=by
 rw[yau ai,List.mem_append];simp_all):Zp:=h
theorem xjd(h:Zp:=by
 go_wp2_with fail;go_meet;exact⟨_,_,r,_,_,_,rfl,rfl,cx,R2,R3⟩):Zp:=h
theorem xje(h:Zp:=by
 have:=r.o;rw[show j=D+a by omega,<-HD.o]at this;exact this):Zp:=h
theorem xjf(h:Zp:=by
 rcases C with C|C<;>exact⟨ar,ad,fU WkS ao λz X W au=>WkE⟩):Zp:=h
theorem xjg(h:Zp:=by
 have:=eL.o k cD;exact⟨(fld v k).toNat,by omega,by omega⟩):Zp:=h
theorem xjh(h:Zp:=by
 rw[yam O];exact h _ (List.getElem_mem _)):Zp:=h
theorem xji(h:Zp:=by
 rcases aL.new b c with d|d
 ·grind
 have:=(eG a8 hb).2;omega):Zp:=h
theorem xjj(h:Zp:=by
 rcases r with⟨c,p⟩|x
 ·exact .err (h c p rfl)
 exact .ok):Zp:=h
theorem qaa(h:Zp:=by
 have d:V _:=Dy.box f K hP ad;have cw:=fp K.ys i;have cj:=fp K.ys (ni bs i);have t:V (S.length=vs.length):=by show _=_;grind
 have HSV:V _:=aw;have b:V _:=O;clear f K ad aw O;go_enter func95,ntmps95;go_wp2_with fail;generalize (w.alloc _).alloc _=W0 at d⊢;refine yaj d.o.next ?_;rintro e ax ⟨rfl,(U:V _)⟩;clear d;go_wp2_with fail;refine yaj U.o.next ?_;rintro e bo ⟨rfl,(HD:V _)⟩;clear U;have ak:0<vs.length:=ix t.o
 have u:nv bs (ni bs i)%vs.length<vs.length:=Nat.mod_lt _ ak;have af:(nv bs _:Int).tmod (vs.length:Int)=(nv bs (ni bs i)%vs.length:Nat):=rfl;have aa:(nv bs (ni bs i):Int)%vs.length=(nv bs (ni bs i)%vs.length:Nat):=xaa;have v:V (nv bs (ni bs i)%vs.length=nv bs (ni bs i)%S.length):=by show _=_;rw[t.o]
 generalize nv bs _%vs.length=j at u af aa v;have bc:¬vs=[]:=λe=>by grind
 exact qab):Zp:=h
theorem qac(h:Zp:=by
 obtain⟨T,ad⟩:=GrS.start f K hP;have aK:V _:=T;have x:V (Kept P (P+1) w _):=e8 ad;have aD:V (∀(W:World) (N:Nat) (o m p q r:Int),GrS W I P a n cap N bs w.heap.size (.slice a1 Z c1) (.slice J vs.length c2) (.slice a3 ab c3) ins vs outs->Kept P (P+1) w W->∀ax,Kept 0 0 W ax->_):=λW N o m p q r S k ax an=>S.put k an (eJ o m p q r) (Nat.zero_lt_succ _) ag;have hj:(nv bs (ni bs i):Int)%(vs.length:Int)=((nv bs (ni bs i)%vs.length:Nat):Int):=xaa;have u:nv bs (ni bs i)%vs.length<vs.length:=Nat.mod_lt _ ak;generalize nv bs (ni bs i)%vs.length=j at hj u ao⊢;have C:V ((nv bs (ni bs i):Int).tmod (vs.length:Int)=j):=(Int.tmod_eq_emod_of_nonneg xaa).trans hj;have bc:¬vs=[]:=λe=>by grind
 have cw:=fp K.ys i;have cj:=fp K.ys (ni bs i);have bE:¬(nv bs i:Int)%16=0:=xaa;have b:V _:=O;have Y:V _:=ao;clear f K T ad O hj ao;go_enter func81,ntmps81;go_wp2_with fail;generalize (w.alloc (.cells #[.slice a1 Z c1,.slice J vs.length c2,.slice a3 ab c3] 108)).alloc fH=W0 at aK x⊢;refine yaj aK.o.next ?_;rintro e ax ⟨rfl,(b1:V _),an⟩;have ay:=b1.o.bx.q1;have bZ:V _:=x.o.trans an;clear an;go_upto_region 11 with fail;go_region_held3 (λB=>B.cell? ⟨w.heap.size,1,none⟩=some (.slice J vs.length c2)) (go_keep) (first|(go_at_call 14;refine yaj (b1.o.keep (eF _)).next ?_;rintro e bo ⟨rfl,t,av⟩;have aB:=t.bx.q1));have HK:V (Kept P (P+1) w bo):=bZ.o.trans ((e8 (eF _)).trans av);have au:V _:=t;exact qad):Zp:=h
theorem qae(h:Zp:=by
 have bn:V (∀o,((w.alloc (fx K Z c1 (some ⟨a0,0,none⟩) ae c2 P ab c3)).alloc fH).frozen? ⟨w.heap.size,o,none⟩=false):=λo=>by simp
 have bI:=iW (w.alloc (fx K Z c1 (some ⟨a0,0,none⟩) ae c2 P ab c3));rw[show(w.alloc _).heap.size=w.heap.size+1 by simp]at bI;have HR:V _:=bI;have eR:V _:=zT _ K P _ Z c1 _ c2 ab c3 s x _ (cQ.keep cy yaa) cf aw ap b4 hops;have eS:V _:=λW k=>xZ W _ _ _ _ c1 _ c2 _ c3 _ _ _ (f.keep (cy.trans k)) b6 xaa b7;have eP:V (∀W,Kept 0 0 _ W->_):=λW k=>((cQ.keep (cy.trans k) yaa).at_ x ap).c1;have N:V _:=f.v.len;have b2:V _:=aV;have ej:V _:=hops;have ca:V _:=b4;have cB:V _:=Q;have HZ:V (SzU 2000 _ _):=⟨ix f.v.len,mP _ (λj hj=>ix (aV j (by have:=f.v.len;omega))),cN⟩
 have cw:(0:Int)<=x:=xaa;have cj:(x:Int)<ae:=xaa;have cW:(0:Int)<=s:=xaa;have bJ:(s:Int)<ae:=xaa;have di:((w.alloc (fx K Z c1 (some ⟨a0,0,none⟩) ae c2 P ab c3)).alloc fH).heap.size=w.heap.size+1+1:=by simp
 clear bI cy f Q cN aV hops b4;go_enter func134,ntmps134;go_wp2_with fail;refine yaj eR.o ?_;rintro e aH ⟨A,rfl,be,e0,an⟩;rw[di]at e0;obtain⟨_,bH,bk,p2⟩:=T.o.keep an;have el:=eP.o _ an;generalize e5:(vs.getD x _).len=bE at el;have f7:V _:=e5;clear e5 eP eR;have bO:V (BR _ A _):=be;have bZ:V _:=an;clear be an;go_wp2_with fail;clear el;refine yaj (eS.o _ bZ.o) ?_;rintro e am ⟨U,aM,J,bi,aa,aI,rfl,ch,b9,bf,⟨ay,aB,bz⟩,av⟩;have bm:w.heap.size+1+1<=aH.heap.size:=ix bZ.o.size
 have HL:V _:=LK.start N.o T.o bn.o HR.o (bZ.o.trans av) bm av.size ch b9 bf ay aB bz;have c7:V (BR (fg _ _ (.slice U Z aM) (.slice J ae bi) (.slice aa ab aI)) A _):=BR.keep (BR.keep bO.o av yaa) (fk _ w.heap.size _ _ _) (.inr (.inl xaa));have ez:V (Farb w _ _ _ _ _ _ _ A):=⟨e0,λc=>i0 ((eG b9 c).1) ((BR.lt bO.o)),λc=>i0 ((eG ch c).1) ((BR.lt bO.o)),λc=>i0 ((eG bf c).1) ((BR.lt bO.o))⟩
 exact qaf):Zp:=h
theorem qag(h:Zp:=by
 have j:V _:=fC W g off m cap ts ad.tk ad.m5 [43] [45];have af:V _:=fC W g off m cap ts ad.tk ad.m5 [42] [47];rw[mB aQ]at j af;have c0:=ad.tk.c0 0 xaa;have c1:=ad.tk.c1 0 xaa;have c2:=ad.tk.c2 0 xaa;have cl:=ad.m5;have ae:=ad.mc;have bE:V _:=ad.ws;have bv:V _:=ad.gd;generalize ts.getD 0 ih=t at*;clear ad aQ;obtain⟨aT,ps,a8⟩:=t;simp only at ak bI;subst ak;simp only[Nat.zero_mul,Nat.add_zero]at c0 c1 c2;simp only;have ai:=tA bI;have HN:V _:=bI;clear bI;have al:V (∀H,Kept 0 0 W H->Calls prog 115 #[hZ P,(⟨1,1,0,0,0,oL a8⟩:Vl).agg,h1 ps] H λe z=>(∃x:Int,e=.returned (h1 x))/\V (TrO W P I u1 u2 u3 u4 bs (fI st ⟨1,1,0,0,0,oL a8⟩ ps) e z)):=λH aj=>yaj (mn (bE.o.keep aj) bv.o ⟨1,1,0,0,0,oL a8⟩ ⟨Int.le_refl _,by show(1:Int)<=1000;decide⟩ (CF a8) ps) (λe z t=>⟨t.ret,TrO.back aj t⟩);obtain⟨r,aF⟩:∃r,r=fI st ⟨1,1,0,0,0,oL a8⟩ ps:=⟨_,rfl⟩
 rw[<-aF]at al⊢;clear aF bE bv;go_enter func112,ntmps112;go_upto_region 3 with (go_at_call 123;refine yaj j.o ?_;rintro e am ⟨rfl,X⟩;obtain rfl:=X.symm);go_upto_region 15 with (go_at_call 123;refine yaj af.o ?_;rintro e am ⟨rfl,X⟩;obtain rfl:=X.symm);go_upto_region 16 with fail;exact qah):Zp:=h
theorem qai(h:Zp:=by
 obtain⟨⟨aw,ba,bb,bc,bo,aF⟩,bE,bm,bC,t,a7,ag,Y,HO⟩:=ad.op U aa m1 af m3 ah;clear ad;unfold PtC;go_enter func139,ntmps139;go_wp2_with fail;rw[a7.o];clear aw ba bb bc bo aF a7;exact qaj):Zp:=h
theorem qak(h:Zp:=by
 have cg:V _:=ql bL.o ah aX
 have aC:V (r=.error (3,Y)):=by
  have h:=HR.o;rw[vq aX]at h;exact(h8 h).symm
 have bE:V _:=jw bL.o.c5 bL.o.c6 bL.o.fr 3 Y (Mst P u1 u2 u3 u4) (.inl rfl);clear aX HR aW bL
 go_wp2_with (first
  |(go_at_call 113;refine yaj cg.o ?_;rintro e am ⟨av,rfl,X⟩;obtain rfl:=X.symm;have ev:(0:Int)<=av:=by omega)
  |(go_at_call 111;refine yaj bE.o ?_;rintro e aU ⟨rfl,G⟩))
 refine yaz (v:=.tuple #[]) (by simp[results,results99,go_sem]) rfl ?_;rw[aC.o];exact⟨rfl,G.c5,G.c6,(Mv.of HK.o).bad G.chg⟩):Zp:=h
theorem qal(h:Zp:=by
 go_enter func112,ntmps112;go_upto_region 3 with (go_at_call 123;refine yaj j.o ?_;rintro e am ⟨rfl,X⟩;obtain rfl:=X.symm);go_upto_region 15 with (go_at_call 123;refine yaj af.o ?_;rintro e am ⟨rfl,X⟩;obtain rfl:=X.symm);go_upto_region 16 with fail;exact qam):Zp:=h
theorem qan(h:Zp:=by
 intros;rename_i wc K;obtain⟨f,aC,cap',b,B,Y⟩:=K;obtain⟨_,_,aY,ar,aW,_,_,_,_⟩:=Y.o.g;go_wp2_with fail;refine(MS.lst Y.o xaa (show(f.length:Int)-1=(vs.length:Nat) by have:=b.o.2;omega)).mono ?_;clear Y aY ar aW;rintro e r ⟨rfl,Y⟩;exact qao):Zp:=h
theorem qap(h:Zp:=by
 obtain⟨b1,hi,hz0,hz1,hz2⟩:=info_parts yW;have ag:=g.n;have bQ:V _:=uC g.k X;have b:V _:=zX g.len aN;have an:=eA 0 0 W (fW v.op v.len v.a v.b v.c v.k);have bL:V _:=h.keep an;have HM1:V (Mv _ W (Mst P u1 u2 u3 u4) _):=Mv.of an;have c1:=bL.o.c1;have bq:V _:=bL.o.r2;have cx:=bL.o.fr 1;have B:=mf W v;obtain⟨aw,ba,bb,bc,bo,aF⟩:=B;have b2:(W.alloc (fW v.op v.len v.a v.b v.c v.k)).heap.size=W.heap.size+1:=by simp
 have HR:V (u2.ownBlock≠some P/\u2.ownBlock≠some W.heap.size):=⟨h.np.2.1,λe=>ix ((eG h.r2 e).2)⟩
 have cF:=h.lt;have b0:I<=W.heap.size:=ix h.sz
 have bZ:V (fI st v p=if kz _=true then .error _ else .ok _):=rfl;generalize fI _ v p=r at bZ⊢;obtain⟨J,j,cJ⟩:=je h.r2;clear h an g;subst cJ;generalize bI:st.vs.length=N at*;have HN:V _:=bI;clear bI;go_enter func115,ntmps115;go_wp2_with fail;generalize bm:W.alloc _=aH at c1 bq aw ba bb bc bo aF b2 cx bL HM1⊢;have ax:I<=aH.heap.size:=xaa;have aM:P<aH.heap.size:=xaa;have d:W.heap.size<aH.heap.size:=xaa;clear b2 bm;exact qaq):Zp:=h
theorem qar(h:Zp:=by
 unfold qh;intros;rename_i bc hP;have bZ:V _:=@hP;have HD:V _:=h.D;have HSV:V _:=h.hs;have ai:=h.hl;have g:=h.hc;obtain⟨_,bl,aS,a9,B,F,ak⟩:=HD.o.bx;obtain rfl:=Bool.eq_false_iff.2 λq=>absurd (bc.1 q) xaa;clear hP bc;conv=>arg 2;whnf
 exact qas):Zp:=h
theorem qat(h:Zp:=by
 obtain⟨⟨aw,ba,bb,bc,bo,aF⟩,bE,bm,bC,t,a7,ag,Y,HO⟩:=ad.op U aa m1 af m3 ah;clear ad;exact qau):Zp:=h
theorem qav(h:Zp:=by
 obtain⟨T,ad⟩:=GrS.start f K hP;have aK:V _:=T;have x:V (Kept P (P+1) w _):=e8 ad;have aD:V (∀(W:World) (N:Nat) (v:Vl),GrS W I P a n cap N bs w.heap.size (.slice a1 Z c1) (.slice J vs.length c2) (.slice a3 ab c3) ins vs outs->Kept P (P+1) w W->∀ax,Kept 0 0 W ax->v.k<18446744073709551616->_):=λW N v S k ax an aN=>S.put k an v aN ag;have cw:=fp K.ys i;have cj:=fp K.ys (ni bs i);have b:V _:=O;generalize bv:vs.length=ae at aK x aD ag b⊢;clear bv;clear f K T ad O;go_enter func81,ntmps81;go_wp2_with fail;generalize (w.alloc (.cells #[.slice a1 Z c1,.slice J ae c2,.slice a3 ab c3] 108)).alloc fH=W0 at aK x⊢;refine yaj aK.o.next ?_;rintro e ax ⟨rfl,(au:V _),an⟩;have HK:V _:=x.o.trans an;clear an aK x;obtain⟨_,aP,ay,aB,_,_,_⟩:=au.o.bx;exact qaw):Zp:=h
theorem qax(h:Zp:=by
 go_enter func28,ntmps28;go_wp2_with (first|(go_at_call 157;refine(written _ (Spn.mk s.dst s.len)).mono ?_;rintro e aH ⟨rfl,an⟩)|fail);have bj:=eA 0 0 aH (Spn.mk s.dst s.len).box;have T:V _:=kE aH (Spn.mk s.dst s.len);have hP:aH.heap.size<(aH.alloc (Spn.mk s.dst s.len).box).heap.size:=by simp
 have HK:V _:=Kept.trans an bj;have ai:V _:=an.size;generalize ad:aH.heap.size=P at T hP ai⊢;generalize aH.alloc (Spn.mk s.dst s.len).box=am at T hP HK bj⊢;clear ad bj an;refine(yv am (Spn.mk s.dst s.len) (n:Int) ci cz xaa xaa).mono ?_;rintro e aU ⟨rfl,aZ⟩;replace HK:V _:=Kept.trans HK.o aZ;replace T:V _:=AtP.keep T.o hP aZ yaa;replace hP:=yak hP aZ.size;clear aZ;exact qay):Zp:=h
theorem qaz(h:Zp:=by
 obtain⟨w,az⟩:=bv.o ar a rfl;have d0:¬((a:Int)<0):=xaa;go_upto_region 7 with (go_at_call 112;refine yaj b2.o ?_;rintro e aU ⟨rfl,ba,bb,bc,bo,aO,aL⟩);have ca:V _:=T.o.keepC aL.chg aD.o;obtain⟨b0,cv,bg,ck,a6⟩:=aO.lenc az;have bR:=ca.o.c0;have bk:=aO.c1;rw[bg]at bk;have bw:V _:=FtI.lit aO aL a;have aZ:V (fQ (λs e=>eM f s u e) st (es.take 1)=some (.ok (ar,[a]))):=HO.o ar a rfl;have aI:V _:=w;have da:V (∀i∈[a],i<ar.vs.length):=by intro i hi;simp at hi;subst hi;exact az
 have bI:=w.g.n;clear bv b2 HE HO aL aO bg ck w bL aY;generalize eW ar a=l at a6;exact qba):Zp:=h
theorem qbb(h:Zp:=by
 have bp:Chg _ _ _:=⟨aw.chg.os,aw.chg.tape,aw.chg.output,aw.chg.size,λb hb ag=>aw.chg.block b hb (by rintro (c|c);exact c;exact ag c)⟩
 have aK:(Value.slice J vs.length c2).ownBlock=some aC\/ax.heap.size<=aC:=by
  exact xfo
 have O:∀u∈vs++[v],u.k<18446744073709551616:=λu a6=>by
  exact xei
 exact qbc):Zp:=h
theorem qbd(h:Zp:=by
 have a:∀I,I<W.heap.size->R≠some I->R'≠some I:=λI a7 K=>by
  rcases aB.row with e|⟨r,e,aF⟩<;>grind
 have aP:∀{b:Option _}{n e:Nat}{xs:List _},W.ownsRow base 3 1 _ n xs->Apart (.slice b n e) _->(∀g,(Value.slice b n e).ownBlock=some g->R≠some g)/\(Value.slice b n e).ownBlock≠some w.heap.size/\Apart (.slice b n e) _:=λho az=>by
  exact xel
 obtain⟨cq,cc,ds⟩:=aP h.i h.a1;obtain⟨ch,b9,bf⟩:=aP h.o h.a3;have d:R≠some (w.heap.size+1):=λc=>by have:=(eG h.g.own (h.g.row.trans c)).1;have:=h.hb;omega
 exact qbe):Zp:=h
theorem qbf(h:Zp:=by
 obtain⟨⟨ba,bb,bc,bo,F,h2,h3⟩,h4⟩:=h;have aZ:∀b,(h0 g9 n9 cap9).ownBlock=some b↔g9=b:=λb=>by simp[Value.ownBlock]
 have aO:∀b,Mst P ba bb bc bo b->b<H.heap.size:=λb hb=>by
  exact xgj
 have f:¬Mst P ba bb bc bo g9:=λc=>by
  rcases br with e|e
  ·exact h3 g9 e c
  ·have:=aO g9 c;omega
 have au:Mv (Mst P u1 u2 u3 u4) W (λb=>Mst P ba bb bc bo b\/(h0 g9 n9 cap9).ownBlock=some b) bn:=by
  exact xds
 exact qbg):Zp:=h
theorem qbh(h:Zp:=by
 have F:=h.keep k;refine(sj _ _ _ _ _ _ _ _ _ _ _ u F.g.own F.g.sz ag).mono ?_;rintro e am ⟨aC,cap',rfl,own,s⟩;rw[h.g.row]at s;have hb:=s.chg.block _ F.g.lt (by rintro (c|c);exact c;exact h.g.ne c);have e:∀o,_:=λo=>World.cell?_of_block (a:=⟨w.heap.size,o,none⟩) hb;have x:∀o,_:=λo=>World.frozen?_of_block (a:=⟨w.heap.size,o,none⟩) hb;have ai:(vs++[u]).length=vs.length+1:=by simp
 exact qbi):Zp:=h
theorem qbj(h:Zp:=by
 have al:V (∀H v,Kept 0 0 W H->(1<=v.len/\v.len<=1000)->v.k<18446744073709551616->Calls _ _ _ _ λe z=>(∃x:Int,e=.returned _)/\V (TrO W P I _ _ _ _ _ (fI _ v _) e _)):=λH v aj F h2=>yaj (mn (h.keep aj) ad v F h2 aX) (λe z t=>⟨t.ret,t.back aj⟩);have bT:V (∀H p,Kept 0 0 W H->_):=λH p aj=>jw (h.keep aj).c5 (h.keep aj).c6 (h.keep aj).fr 4 p (Mst P u1 u2 u3 u4) (.inl rfl);exact qbk):Zp:=h
theorem qbl(h:Zp:=by
 have aG:=eA 0 0 w (iE a1 Z c1 J ae c2 a3 ab c3 aL);have T:V _:=iX w (.slice a1 Z c1) (.slice J ae c2) (.slice a3 ab c3) (h1 aL);exact qbm):Zp:=h
theorem qbn(h:Zp:=by
 have d0:¬((a:Int)<0):=xaa;go_upto_region 7 with (go_at_call 112;refine yaj b2.o ?_;rintro e aU ⟨rfl,ba,bb,bc,bo,aO,aL⟩);exact qbo):Zp:=h
theorem qbp(h:Zp:=by
 have bf:∀z,Kept 0 0 H z->_:=λz av=>
  N z P I u1 u2 u3 u4 bs st a5 Q cL u g o ts.length c0 ts ⟨ad.ws.keep (aj.trans av),ad.gd,ad.nm,ad.lc.keep (aj.trans av),ad.ln,ad.lo,c2.keep av,ad.tg,ix ad.m5,c3,λt ht=>ad.ti t (by simp[ht]),λt ht=>ad.tn t (by simp[ht])⟩ 2 a az yad aq af
 have br:=fX f st u a ad.gd ad.nm ad.lo bS aq af;have b:=ad.ws.far2 aD;exact qbq):Zp:=h
theorem qbr(h:Zp:=by
 obtain⟨bk,p2,a6,l⟩:=h.np;obtain⟨B,m,r,G,C,F⟩:=h.ap;have aZ:∀b,(h0 g9 n9 cap9).ownBlock=some b↔g9=b:=λb=>by simp[Value.ownBlock]
 exact qbs):Zp:=h
theorem qbt(h:Zp:=by
 have cj:((k:Int)==0)=false:=by grind
 obtain rfl:T=cl:=by rw[<-l.o];exact(h6 bE).symm
 obtain⟨rs,f1,f3⟩:=HX.o.put HX.o.cd (iv).chg;obtain⟨bl,aS,a9,bV⟩:=nT _ _ _ _ _ _ rs.q0 rs.q1 rs.q2 rs.q3 (.slice a1 Z c1) (.slice J ae c2) (.slice a3 ab c3) (h1 T.2.2.2.1);obtain⟨_,bq,aq,aT,b8,bR,bS,bT,ch⟩:=rs;exact qbu):Zp:=h
theorem qbv(h:Zp:=by
 rw[a5]at C;have bf:V (Cy w S _ P a n _ i _ I _ _ _ _ _ _ _ _):=⟨(K.keep ad yab).keep an yab,(l.keep ad).keep an,a2.keep an,C,⟨hP,a7⟩,λb hb=>.inl (by rcases hb with h|h|h;exact(eG l.r1 h).2;exact(eG l.r2 h).2;exact(eG l.r3 h).2),(ad.trans an).chg,⟨z,yad⟩,λb h=>.inl (r b h)⟩
 exact qbw):Zp:=h
theorem qbx(h:Zp:=by
 obtain⟨aW,f⟩:=x;obtain⟨F,h2,n,h3⟩:=lF g _ _ (by simp_all) ba;have bN:=h3 _ (mo (k:=0) (by rw[h2];simp));have f1:=h3 _ (mo (k:=1) (by rw[h2];simp));exact qby):Zp:=h
theorem qbz(h:Zp:=by
 go_enter func108,ntmps108;go_upto_region 3 with fail;have HN:V _:=Bv w i;change Code.wp _ _ _ _ ((w.alloc (.cells #[eK _,.int _ (0:Nat),eK _] 137)).alloc (.cells #[eK _,h1 _,eK _] 137));generalize (w.alloc _).alloc _=W0 at HN⊢;have c0:=(aD.o _ HN.o.k).at_ i hi;exact qca):Zp:=h
theorem qcb(h:Zp:=by
 rw[hz1,Nat.mul_one,Int.toNat_natCast]at this;exact this):Zp:=h
theorem qcc(h:Zp:=by
 have aD:V _:=a2;clear a2;go_upto_region 4 with (go_at_call 96;refine yaj bI.o ?_;rintro e am ⟨v,rfl,ba,av⟩);obtain⟨aL,aA,rfl,a5⟩:=TR.slice ba;exact qcd):Zp:=h
theorem qce(h:Zp:=by
 obtain⟨w,az⟩:=bv.o s a rfl;have d0:¬((a:Int)<0):=xaa;go_upto_region 7 with (go_at_call 112;refine yaj b2.o ?_;rintro e am ⟨rfl,ba,bb,bc,bo,J,aG⟩);have y:V _:=T.o.keepC aG.chg aD.o;obtain⟨b0,cv,bg,ck,a6⟩:=J.lenc az;have b3:=J.c1;subst bg;exact qcf):Zp:=h
theorem qcg(h:Zp:=by
 have Z:V _:=b2;have cx:V _:=bO;have bv:V _:=br;have bW:V _:=bh;obtain⟨r,aF⟩:∃r,r=I5 (ts.getD k ih) aq aT:=⟨_,rfl⟩
 rw[<-aF];have HR:V _:=aF;clear aF ad b2 bO br bh;go_enter func112,ntmps112;have bE:¬((k:Int)<0):=xaa;exact qch):Zp:=h
theorem qci(h:Zp:=by
 rw[<-ak]at HN;unfold CoO;rw[<-h2];have HQ:V _:=aA;have HR:V _:=F;clear f ak F h2 aA bp;generalize xs.length=m at HX HN HQ HR⊢;exact qcj):Zp:=h
theorem qck(h:Zp:=by
 obtain⟨bk,aq⟩:=Y ch;obtain⟨p2,aT⟩:=Y b9;obtain⟨a6,b8⟩:=Y bf;have cy:Kept 0 0 w ((w.alloc g).alloc fH):=(eA 0 0 w _).trans (eA 0 0 _ _);have b2:w.heap.size<(fg aH _ _ _ _).heap.size:=yak aj.sz aX.size;exact qcl):Zp:=h
theorem qcm(h:Zp:=by
 refine⟨o.1,o.2.imp id ?_⟩;rintro⟨g,cap,ad,af,U,aV,aa⟩;refine⟨g,_,_,af,U,?_,aa⟩;have aK:g<W.heap.size:=by grind
 exact qcn):Zp:=h
theorem qco(h:Zp:=by
 have n:(4:Int)=2\/(4:Int)=3\/(4:Int)=4\/(4:Int)=5\/(4:Int)=7:=xab;have I:(5:Int)=2\/(5:Int)=3\/(5:Int)=4\/(5:Int)=5\/(5:Int)=7:=xab;have bf:(3:Int)=2\/(3:Int)=3\/(3:Int)=4\/(3:Int)=5\/(3:Int)=7:=xab;exact qcp):Zp:=h
theorem qcq(h:Zp:=by
 have T:V _:=iX w (.slice a1 Z c1) (.slice J ae c2) (.slice a3 ab c3) (h1 aL);have HK:V _:=aG;exact qcr):Zp:=h
theorem qcs(h:Zp:=by
 have ad:=eA 0 0 w (fx U Z c1 aV ae c2 aa ab c3);have T:V _:=hH w (.slice U Z c1) (.slice aV ae c2) (.slice aa ab c3);exact qct):Zp:=h
theorem qcu(h:Zp:=by
 intro g cap n9 bn _ b9 bF ch;have R1:V _:=b9;have R2:V _:=uL (n:=n9) (cap:=cap) aj.o br.o (eA 0 0 _ _) bF ch;clear b9 bF ch;try rw[List.append_assoc]at R1
 rw[<-bI.o]at R1;go_wp2_with fail;exact qcv):Zp:=h
theorem qcw(h:Zp:=by
 have ao:=ad.tk.len;simp only[yaq,yal,List.length_nil]at ao;have aQ:=iZ az;have T:=iZ hb;have bc:us≠[]:=λc=>by rw[c]at T;simp at T
 have y:=jF az yad;have B:=jF hb yad;have bX:=ad.mc;exact qcx):Zp:=h
theorem qcy(h:Zp:=by
 have d:=nC f.rd bp λb hb=>by grind
 have own:∀{u:Value}{xs:List _}{m e s:Nat},H.ownsRow C.heap.size e s u m xs->(∀b,u.ownBlock=some b->b≠Q)->_:=λo h=>fD o aj λb hb=>by grind
 exact qcz):Zp:=h
theorem qda(h:Zp:=by
 have bf:V (∀w,Calls prog 34 #[(Spn.mk (D:Int) (L:Int)).agg,h0 g N N] w λe B=>e=.returned (.slice (some ⟨g,D,none⟩) L (N-D))/\Kept 0 0 w B):=λw=>pB w g N N D L ci H xaa;exact qdb):Zp:=h
theorem qdc(h:Zp:=by
 rw[heap_setCell_same w g k _ _ _ h];simp[List.map_set]):Zp:=h
theorem qdd(h:Zp:=by
 have aQ:=t.p;have c:∀X o,I≠X->(W.setCell ⟨I,j,_⟩ u).cell? ⟨X,o,_⟩=W.cell? _:=λX o bH=>eV _ _ _ _ _ _ (.inl bH);obtain⟨aN,bl,aS,a9,bF,bB,bG⟩:=h.b;exact qde):Zp:=h
theorem qdf(h:Zp:=by
 unfold iT;simp only;go_enter func128,ntmps128;go_upto_region 1 with fail;change Code.wp _ _ _ _ (W.alloc (.cells _ 137));generalize W.alloc _=ax at T HK⊢;exact qdg):Zp:=h
theorem qdh(h:Zp:=by
 obtain⟨bh,aJ,y2,y3,y4,b5⟩:=bw;have T:∀o,_:=λo=>HD.o.dg.r2.frozenAt o;have bA:(vd _ j).k<18446744073709551616:=HD.o.dg.k _ (iH u);have HK:V _:=bA;clear bA;obtain⟨_,aP,ay,aB,_,_,_⟩:=HD.o.bx;exact qdi):Zp:=h
theorem qdj(h:Zp:=by
 clear Y;unfold PfK;intros;rename_i wc K;obtain⟨f,aC,cap',b,B,Y⟩:=K;obtain⟨_,_,aY,ar,aW,_,_,_,_⟩:=Y.o.g;go_wp2_with fail;refine(MS.lst Y.o xaa (show(f.length:Int)-1=(vs.length:Nat) by have:=b.o.2;omega)).mono ?_;clear Y aY ar aW;rintro e r ⟨rfl,Y⟩;go_wp2_with fail;exact qdk):Zp:=h
theorem qdl(h:Zp:=by
 intros;rename_i wc K;obtain⟨vs2,aC,cap',h,F,Y⟩:=K;obtain⟨_,_,aY,ar,aW,_,_,_,_⟩:=Y.o.g;go_wp2_with fail;refine(MS.lst Y.o xaa (show(vs2.length:Int)-1=((vs.length:Nat)+1) by have:=b.o.2;have:=h.o.2;omega)).mono ?_;clear Y aY ar aW;rintro e r ⟨rfl,Y⟩;exact qdm):Zp:=h
theorem qdn(h:Zp:=by
 subst ao;obtain⟨q,aA,f,k⟩:∃q:Nat,q<5/\(c:Int)/8%5=(q:Int)/\c/8%5=q:=⟨c/8%5,by omega,by omega,rfl⟩
 rw[k,show((base+d/8%6:Nat):Int)=(base:Int)+d/8%6 by omega]at bZ;have u:(q:Int)<5:=xaa;have cz:(base:Int)<=100:=xaa;have r:(d:Int)<256:=xaa;have af:(c:Int)<256:=xaa;have cA:=Qq W 3 aA;generalize ([2,3,4,5,7]:List Int).getD q 0=o at bZ cA;have b:=HD.o.keep (eA 0 0 W (.cells #[h1 2,h1 3,h1 4,h1 5,h1 7] 3));clear HD k h;have HD:V _:=b;clear b;have ci:¬(c:Int)%8=0:=xaa;have Z:¬(c:Int)%8=1:=xaa;have ae:¬(c:Int)%8=2:=xaa;have l:(c:Int)%8<6:=xaa;exact qdo):Zp:=h
theorem qdp(h:Zp:=by
 have aJ:=bw.c1;rw[show(vs.getD j h9).len=m from Y.o]at aJ;rw[C.o];clear t av bw C cj ay b1 bZ aK x aw bE Y;first|(have G:(nv bs i:Int)%16=14:=ix b.o)|(have G:(nv bs i:Int)%16=15:=ix b.o)
 clear b;obtain⟨_,aP,ay,aB,_,_,_⟩:=au.o.bx;go_wp2_with fail;refine yaj (au.o.pick ag _) ?_;rintro e cc ⟨rfl,h,bW⟩;replace HK:V _:=HK.o.trans bW;replace au:V _:=h;clear h bW aP ay aB aJ;go_wp2_with fail;refine yaj au.o.next ?_;rintro e ca ⟨rfl,v,a2⟩;replace HK:V _:=HK.o.trans a2;replace au:V _:=v;clear v a2;have l:=cO.o;exact qdq):Zp:=h
theorem qdr(h:Zp:=by
 have aV:∀j,j<ae->_:=λj hj=>gi (List.all_eq_true.1 Q j (List.mem_range.2 hj));have hops:∀j,j<ae->∀k,k<cnt _->_:=λj hj=>mE (List.all_eq_true.1 Q j (List.mem_range.2 hj));have b4:∀j,j<ae->_:=λj hj=>nu (List.all_eq_true.1 Q j (List.mem_range.2 hj));have cy:Kept 0 0 w ((w.alloc (fx K Z c1 (some ⟨a0,0,none⟩) ae c2 P ab c3)).alloc fH):=(eA 0 0 w _).trans (eA 0 0 _ _);have T:V _:=(hH w (.slice K Z c1) (h0 a0 ae c2) (.slice P ab c3)).keep (eA 0 0 _ fH);exact qae):Zp:=h
theorem qds(h:Zp:=by
 change Code.wp _ _ _ _ (W.alloc (.cells #[eK [110,97,109,101],h1 ps,eK a8] 137));have T:V _:=gV W [110,97,109,101] ps a8;have HK:V _:=eA 0 0 W (.cells #[eK [110,97,109,101],h1 ps,eK a8] 137);generalize W.alloc (.cells #[eK [110,97,109,101],h1 ps,eK a8] 137)=ax at T HK⊢;have HZ:V _:=HK.o.size;generalize a2:W.heap.size=a7 at T⊢;have HX:V _:=a2;clear a2;obtain⟨bL,U,aV⟩:ax.cell? ⟨a7,0,none⟩=some (eK [110,97,109,101])/\ax.cell? ⟨a7,1,none⟩=some (h1 ps)/\ax.cell? ⟨a7,2,none⟩=some (eK a8):=⟨T.o.c0,T.o.c1,T.o.c2⟩
 exact qdt):Zp:=h
theorem qdu(h:Zp:=by
 go_upto_region 45 with (go_at_call 124;refine yaj v.o ?_;rintro e bA ⟨cX,dc,rfl,aJ,y2,y3,y4,ab,bK,a8⟩);obtain⟨b0,cv,bg,ck,a6⟩:=ab.lenc ak;obtain⟨be,of,ah,a2,ai,co⟩:=a8.at_ xac;subst bg ah;have S:V _:=aB.o.trans bK;have ag:V _:=T.o.keepC S.o.chg aD.o;exact qdv):Zp:=h
theorem qdw(h:Zp:=by
 have aJ:=bw.c1;rw[show(vs.getD j h9).len=m from Y.o]at aJ;rw[C.o];clear t av bw C cj ay b1 bZ aK x aw bE Y;exact qdx):Zp:=h
theorem qdy(h:Zp:=by
 generalize W.heap.size=a7 at T aD⊢;obtain⟨bq,cK,dd,di⟩:=mJ _ es st R ap.o 0 (by rw[aV.o];decide) st [] rfl;obtain⟨o,ci,c0,aY,av⟩:=m.o.call 0 (by rw[aV.o];decide);obtain⟨dg,cx⟩:=av st bq ax u1 u2 u3 u4 (Gw.refl cp.o) cK (bE.o.keep HK.o) (Mv.of HK.o);rw[<-m.o.cell (Mv.of HK.o).chg 0]at aY;have HE:V _:=dd;have HO:V _:=di;have bv:V _:=dg;have b2:V _:=cx;have bL:=T.o.c0;clear cK dd di dg cx av;exact qdz):Zp:=h
theorem qea(h:Zp:=by
 have T:V _:=gV W bf Y a;have HK:V _:=eA 0 0 W (.cells #[eK bf,h1 Y,eK a] 137);generalize W.alloc _=ax at T HK⊢;generalize W.heap.size=a7 at T bg⊢;have bL:V _:=aW.o.ws.keep HK.o;have U:=T.o.c1;have aV:=T.o.c2;exact qeb):Zp:=h
theorem qec(h:Zp:=by
 clear bH bk p2;obtain⟨_,bH,bk,p2⟩:=T.o.keep (bZ.o.trans av);have bN:=((bZ.o.trans av).frozen T.o.sz xaa).trans (bn.o 0);have f1:=((bZ.o.trans av).frozen T.o.sz xaa).trans (bn.o 1);have f2:=((bZ.o.trans av).frozen T.o.sz xaa).trans (bn.o 2);have bc:=BR.cell c7.o s (by rw[oK,N.o];exact aw);rw[az]at bc;unfold fg at bc HL c7;clear ch b9 bf ay aB bz av eS T bn HR bO bZ di;exact qed):Zp:=h
theorem qee(h:Zp:=by
 obtain⟨⟨aw,ba,bb,bc,bo,aF⟩,bE,bm,bC,t,a7,ag,Y,HO⟩:=ad.op U aa m1 af m3 ah;clear ad;unfold MvC;go_enter func140,ntmps140;go_wp2_with fail;rw[a7.o];clear aw ba bb bc bo aF a7;refine fh (xU Y xaa ?_);clear Y;unfold MfK;exact qan):Zp:=h
theorem qef(h:Zp:=by
 rw[S]at a2⊢;obtain⟨b4,rfl,aD,cc,bU⟩:=a2.at_ xac;obtain⟨o,c0,c1,c2,c3⟩:=bU 0 xac;obtain⟨bm,ak,G,j,aH⟩:=bU 1 xac;exact qeg):Zp:=h
theorem qeh(h:Zp:=by
 have aP:∀{u:Value}{e s n:Nat}{xs:List _},W.ownsRow I e s u n xs->Apart u _->Apart u _:=λho az k O aN=>by
  exact xdz
 exact qei):Zp:=h
theorem qej(h:Zp:=by
 unfold MvC;go_enter func140,ntmps140;go_wp2_with fail;rw[a7.o];clear aw ba bb bc bo aF a7;exact qek):Zp:=h
theorem qel(h:Zp:=by
 rw[mB aQ]at j af;have c0:=ad.tk.c0 0 xaa;have c1:=ad.tk.c1 0 xaa;have c2:=ad.tk.c2 0 xaa;have cl:=ad.m5;have ae:=ad.mc;exact qem):Zp:=h
theorem qen(h:Zp:=by
 have cH:¬((v:Int)<0):=xaa;go_upto_region 6 with (go_at_call 126;refine yaj b.o ?_;rintro e am ⟨rfl,av⟩);have bQ:V _:=HK.o.trans av;have cy:V _:=T.o.keep av;have aY:=aK.o am bQ.o;have b2:V _:=K.o ⟨v,rfl⟩ am bQ.o;clear b T HK av bL ar aW bJ cB aK K;exact qeo):Zp:=h
theorem qep(h:Zp:=by
 go_wp2_with fail;generalize w.alloc _=W0 at HR0 aK x⊢;refine yaj (HN.o _ _ HR0.o) ?_;rintro e ax ⟨rfl,(bK:V _),an,aR⟩;have bZ:V _:=x.o.trans an;have b1:V _:=kI aK.o an (.inr HZ.o);clear an aR HR0 x aK HN;go_wp2_with fail;exact qeq):Zp:=h
theorem qer(h:Zp:=by
 have aX:=fk aH w.heap.size (.slice U Z aM) (.slice J ae bi) (.slice aa ab aI);have aj:=br.keep k;obtain⟨bh,aJ,y2⟩:=fd _ _ _ _ _ aj.q0 aj.q1 aj.q2 (.slice U Z aM) (.slice J ae bi) (.slice aa ab aI);exact qes):Zp:=h
theorem qet(h:Zp:=by
 have f1:=f.keep k;refine(sj _ _ _ _ _ _ _ _ _ _ _ v f1.dg.r2 f1.dg.sz xaa).mono ?_;rintro e am ⟨aC,cap',rfl,bq,aw⟩;exact qbb):Zp:=h
theorem qeu(h:Zp:=by
 go_enter func133,ntmps133;go_upto_region 1 with fail;change Code.wp _ _ _ _ (W.alloc (.cells _ 137));generalize W.alloc _=ax at T HK⊢;generalize W.heap.size=a7 at T⊢;exact qev):Zp:=h
theorem qew(h:Zp:=by
 clear HR bv bW cp bV aO aL ag an av ap bj bx;obtain⟨C,S⟩:∃C,ts.getD k ih=C:=⟨_,rfl⟩
 have aS:V _:=S;rw[S]at c1 aM v aC;clear S;obtain⟨bk,w,bB⟩:=C;exact qex):Zp:=h
theorem qey(h:Zp:=by
 have HX:V _:=(yJ f.bt).2;have HZ:V (hi<=R/\R<W.heap.size):=⟨f.le,f.lt⟩
 have HN:V _:=mI W _ R _ _ f;exact qez):Zp:=h
theorem qfa(h:Zp:=by
 have aN:=eA 0 0 w (fx none 0 0 none 0 0 none 0 0);have bI:V _:=qm (f.keep aN) xaa aW;have HL:V ((jq t).length<=4000):=by show _<=_;have:=qw t;have:=f.len;omega
 exact qfb):Zp:=h
theorem qfc(h:Zp:=by
 go_wp2_with fail;refine yaj HX.o ?_;rintro e am ⟨rfl,bM⟩;replace aD:V _:=aD.o.keep bM;replace T:V _:=T.o.keep bM;replace HK:V _:=Kept.trans HK.o bM;exact qfd):Zp:=h
theorem qfe(h:Zp:=by
 have l:(1:Int)+(nv bs (ni bs (ni bs (ni bs i))):Int)%4=((1+nv bs (ni bs (ni bs (ni bs i)))%4:Nat):Int):=xaa;have aF:=fp K.ys (ni bs (ni bs (ni bs i)));exact qff):Zp:=h
theorem qfg(h:Zp:=by
 obtain⟨a4,cK,ak⟩:=jy bL.o.r4;subst ak;go_upto_region 2 with (go_at_call 113;refine yaj cg.o ?_;rintro e am ⟨i,rfl,b0,X⟩;obtain rfl:=X.symm);exact qfh):Zp:=h
theorem qfi(h:Zp:=by
 have bR:=y.o.c0;have aM:=y.o.c1;have bI:=w.g.n;generalize eW s a=l at a6 al;generalize s.vs.length=N at*;clear J aG b2 T HR bv w bL aY;exact qfj):Zp:=h
theorem qfk(h:Zp:=by
 have Y:V _:=bp;clear bp HL;go_upto_region 7 with (go_at_call 97;refine yaj I.o ?_;rintro e aU ⟨rfl,aZ⟩);have aO:V _:=bQ.o.trans aZ;exact qfl):Zp:=h
theorem qfm(h:Zp:=by
 have bX:=ad.mc;have cl:=ad.m5;have ah:bs.length<=100000:=by rw[ad.ws.nl];have:=ad.gd.m;omega
 have c0:=ad.tk.c0 0 xaa;have ci:=ad.tk.c0 1 xaa;have Z:=ad.tk.c1 1 xaa;have ae:=ad.tk.c2 1 xaa;exact qfn):Zp:=h
theorem qfo(h:Zp:=by
 have c8:V (∀H z,Kept 0 0 bA H->Chg (Mst P aJ (h0 b0 bJ.vs.length cv) y3 y4) H z->z.cell? ⟨a7,1,none⟩=some (h1 aX)/\z.cell? ⟨be,of,none⟩=some (h1 (d:Nat))/\z.cell? ⟨be,of+1,none⟩=some (h1 (n:Nat))):=λH z aj aK=>by
  exact xdx
 have bI:=G.g.n;have ds:=G.g.lenB ak;have cV:V _:=G.g;have c9:V _:=ab;have dv:V _:=bi;exact qfp):Zp:=h
theorem qfq(h:Zp:=by
 refine fh (yI Y xaa ?_);clear Y;unfold PfK;intros;rename_i wc K;obtain⟨vs2,aC,cap',h,F,Y⟩:=K;obtain⟨_,_,aY,ar,aW,_,_,_,_⟩:=Y.o.g;go_wp2_with fail;refine(MS.lst Y.o xaa (show(vs2.length:Int)-1=((vs.length:Nat)+1) by have:=b.o.2;have:=h.o.2;omega)).mono ?_;clear Y aY ar aW;rintro e r ⟨rfl,Y⟩;go_wp2_with fail;exact qfr):Zp:=h
theorem qfs(h:Zp:=by
 have cg:V _:=qk bL.o ah aX;have HFn:V _:=aX;clear aX;go_upto_region 23 with (go_at_call 113;refine yaj cg.o ?_;rintro e am ⟨rfl,X⟩;obtain rfl:=X.symm);clear cg;exact qft):Zp:=h
theorem qfu(h:Zp:=by
 have ao:=ad.tk.len;simp only[yaq,yal,List.length_nil]at ao;have aQ:=iZ az;have y:=jF az yad;have bX:=ad.mc;have bS:=jm az (λt ht=>ad.ti t (by simp[ht])) a xac;exact qfv):Zp:=h
theorem qfw(h:Zp:=by
 have aM:=cw.o.c1;clear aq bH bf HR bZ bz j O ap m cp;obtain⟨q,aA⟩:∃q,q=jT s xs aX:=⟨_,rfl⟩
 have HQ:V _:=aA;rw[<-aA]at v bj;clear aA;rw[ao.o]at v⊢;exact qfx):Zp:=h
theorem qfy(h:Zp:=by
 obtain⟨xs,H⟩:=I.o;have HX:V _:=H;rw[<-H]at m ao;have HD:V _:=m;clear bx m H I;generalize ai:xs.length=l at HD ao;have Z:V _:=ai;have cH:=ao.o;have am:l<=2000:=xaa;have cS:V _:=cH;clear ai;have x:=cM.o;obtain⟨_,aP,ay,aB,_,_,_⟩:=HD.o.bx;exact qfz):Zp:=h
theorem qga(h:Zp:=by
 obtain⟨rs,f1,f3⟩:=HX.o.put aO ar;obtain⟨bl,aS,a9,bV⟩:=nT _ _ _ _ _ _ rs.q0 rs.q1 rs.q2 rs.q3 (.slice a1 Z c1) (.slice J ae c2) (.slice aa m3 aI) (h1 (spT bs T).2.2.2.1);obtain⟨_,bq,aq,aT,b8,bR,bS,bT,ch⟩:=rs;exact qgb):Zp:=h
theorem qgc(h:Zp:=by
 obtain⟨aT,ps,a8⟩:=t;simp only at ak;subst ak;have cG:((m:Int)==1)=false:=yax xaa;simp only[Nat.zero_mul,Nat.add_zero]at c0 c1 c2;exact qal):Zp:=h
theorem qgd(h:Zp:=by
 have cO:V (∀(X bo cl:Value) (o:Nat),(((wr.setCell _ X).setCell _ bo).setCell _ cl).drew.cell? _=wr.cell? ⟨_,o,_⟩):=λX bo cl o=>jK _ _ _ _ X bo cl gb;have d5:V _:=HL.o.a4;have R1:V _:=HL.o.fin (eF _);exact qge):Zp:=h
theorem qgf(h:Zp:=by
 obtain⟨_,bl,aS,a9,_,_,_⟩:=au.o.bx;obtain⟨_,bq,aq,aT,bR,bS,bT⟩:=au.o.rs;go_wp2_with fail;obtain⟨bH,bk,p2⟩:=fd _ _ _ _ _ bq aq aT (.slice a1 ins.length c1) (h0 g vs.length c2) (h0 g9 n9 cap9);exact qgg):Zp:=h
theorem qgh(h:Zp:=by
 rw[<-aF];have HR:V _:=aF;clear aF h ad bO K cA;unfold iT;simp only;go_enter func129,ntmps129;go_upto_region 2 with fail;exact qgi):Zp:=h
theorem qgj(h:Zp:=by
 have j:V _:=fC W g off m cap ts ad.tk ad.m5 [43] [45];have af:V _:=fC W g off m cap ts ad.tk ad.m5 [42] [47];exact qel):Zp:=h
theorem qgk(h:Zp:=by
 have bL:=T.o.c0;go_upto_region 3 with (go_at_call 114;refine yaj (b8.o _) ?_;rintro e am ⟨rfl,av⟩);have bQ:V _:=HK.o.trans av;have y:V _:=T.o.keep av;exact qgl):Zp:=h
theorem qgm(h:Zp:=by
 have bj:=eA 0 0 wr s.box;have bZ:V _:=jD wr s;have hP:wr.heap.size<(wr.alloc s.box).heap.size:=by simp
 subst bS;obtain⟨bR,aM,bi,aI,r,aC,a7,bT⟩:=bw;exact qgn):Zp:=h
theorem qgo(h:Zp:=by
 have cA:¬((y:Int)<0):=xaa;go_upto_region 11 with (go_at_call 112;refine yaj cp.o ?_;rintro e aU ⟨rfl,aR,bd,bu,bC,aO,aL⟩);have ag:=bV.o.trans aL;exact qgp):Zp:=h
theorem qgq(h:Zp:=by
 obtain⟨w,az⟩:=bv.o ⟨v,rfl⟩ s a rfl;have ap:=yak (bj.o v rfl) w.n;exact qbn):Zp:=h
theorem qgr(h:Zp:=by
 have aW:V _:=ad;have bg:V _:=ad.ws.far;obtain⟨bf,Y,a⟩:=n;simp only[Nat.zero_mul,Nat.add_zero,Nat.one_mul]at c0 ci Z ae;simp only[iz]at h;have HR:V _:=h;exact qgs):Zp:=h
theorem qgt(h:Zp:=by
 clear a6 co ab bK a8 au v aB b8 a2 ai ck bi aM cw S ao bj T HQ aC;go_quiet (fail)
 have am:V _:=eH 0 0 bA nq;have aT:V _:=aw.o _ am.o;exact qgu):Zp:=h
theorem qgv(h:Zp:=by
 have bZ:V (R=.ok (s,xs)):=by
  exact xet
 obtain⟨cF,d1,aR,bd,bu,bC,rfl,aq,(aB:V _),bH⟩:=bf.o.xs;have v:V _:=Aj aq j.o.g cF xs.length d1 xs bH (by rw[ao.o];decide) O.o aX;have cw:V _:=T.o.keepC aB.o.chg aD.o;exact qgw):Zp:=h
theorem qgx(h:Zp:=by
 have a2:=bw.o.lt;have a9:=bw.o.c2;have bq:V _:=a8.r4;have bv:V _:=a8;have cF:bs.length<=5000:=i1 a8.nl bW.m
 clear a8;subst e4;generalize bI:bs.length=N at*;have HN:V _:=bI;clear bI;exact qgy):Zp:=h
theorem qgz(h:Zp:=by
 obtain⟨bx,cr⟩:=cI.o _ _ rfl;have d6:¬((J:Int)<0):=xaa;have af:V _:=cO.o _ _ rfl;have cJ:V _:=j.o.trans bx
 have cW:V (∀i∈xs++[J],i<aW.vs.length):=by
  exact xcw
 exact qha):Zp:=h
theorem qhb(h:Zp:=by
 have d1:=tX (by rw[ag];decide) (by rw[ag];decide) (by rw[ag];decide);have S:=Bj y al d1
 have a6:ts++c::[n]=((k::l::(ts++[c,n,q])).drop 2).take (m-1-2):=by
  exact xfb
 exact qhc):Zp:=h
theorem qhd(h:Zp:=by
 have aD:V _:=h.far;have bE:V _:=h;have cp:V _:=ad;have m:V _:=bO;have ap:V _:=K;have aV:V _:=cA;exact qhe):Zp:=h
theorem qhf(h:Zp:=by
 go_enter func99,ntmps99;go_upto_region 20 with fail;go_upto_region 21 with fail;change Code.wp _ _ _ _ (W.alloc (.cells #[eK _,.int _ Y,eK _] 137));exact qea):Zp:=h
theorem qhg(h:Zp:=by
 have bi:¬Mst P aJ (h0 b0 bJ.vs.length cv) y3 y4 a7:=λc=>(S.o.new a7 c).elim aD.o (λc=>ix T.o.lt);have cB:V _:=(Mv.of (M:=Mst P u1 u2 u3 u4) HK.o).trans S.o;exact qhh):Zp:=h
theorem qhi(h:Zp:=by
 have bj:V _:=λbJ Y (aa:jT s xs aX=.ok (bJ,Y))=>lF j.o.g xs aX O.o aa;exact qfw):Zp:=h
