import Derived.BigQuiet
import Derived.Deep.AppendLies
import Derived.Deep.AppendSrc
import Derived.Deep.DeepCutAuto
import Derived.Deep.DrawnRows
import Derived.Deep.Draws
import Derived.Deep.LoopGhost
import Derived.Deep.QuietTactic
import Derived.Deep.RegionHeld3
import Derived.Deep.RegionLaw
import Derived.Deep.RegionWith
import Derived.Deep.Slices
import Derived.DeepKeys4
import Derived.Laws.BytesArg
import Derived.Laws.Cover3
import Derived.Laws.FloatArith
import Derived.Laws.OwnMore
import Derived.Lib.ConvBytes
import Derived.LoopIn
import Derived.LoopNIn
import Derived.Maps.OwnOps
import Derived.Maps.OwnSet
import Derived.OpenShut
import Derived.OwnWalkIn
import Derived.ProofKit
import Derived.RangeFuncBound
import Derived.RangeFuncCalls
import Derived.RangeFuncLeaves
import Derived.RangeFuncNested
import Derived.Shelf.Abstract
import Derived.Shelf.RegionOpen
import Derived.TacticsInMore
import Derived.WalkKit
import Derived.WalkLawsBesides
import Derived.WalkSpells
namespace Go.Proofs.Z
open Go.RowKit
theorem yaa{A B:Prop}{n:Nat}:A∨B∨n≤n:=.inr (.inr (Nat.le_refl _))
theorem yab{A:Prop}{n:Nat}:A∨n≤n:=.inr (Nat.le_refl _)
theorem yac{A:Prop}{n:Nat}:(n≤n∧n<n+1)∨A:=.inl ⟨Nat.le_refl _,Nat.lt_succ_self _⟩
theorem yad{n:Nat}:n≤n:=Nat.le_refl _
theorem yae{n:Nat}:n<n+1:=Nat.lt_succ_self _
theorem yaf{P:Prop}(h:P:=by simp;omega):P:=h
theorem yag{P:Prop}(h:P:=by show(0:Nat)<18446744073709551616;decide):P:=h
theorem yah.{u}{α:Type u}{l:List α}{i:Nat}{a:α}:l.getD i a=l[i]?.getD a:=List.getD_eq_getElem?_getD
theorem yai{P:Program}{f:FuncId}{args:Array Value}{w:World}{R R':Ending→World→Prop}(h:Calls P f args w R)(g:∀e w',R e w'→R' e w'):Calls P f args w R':=h.mono g
theorem yaj{n m k:Nat}(h:n<m)(g:m≤k):n<k:=Nat.lt_of_lt_of_le h g
theorem yak.{u}{α:Type u}{s t:List α}:(s++t).length=s.length+t.length:=List.length_append
theorem yal.{u}{α:Type u}{l:List α}{i:Nat}(h:i<l.length):l[i]?=some l[i]:=List.getElem?_eq_getElem h
theorem yam.{u}{α:Type u}[BEq α][LawfulBEq α]{a b:α}(h:a≠b):(a==b)=false:=beq_eq_false_iff_ne.2 h
theorem yan{n m k:Nat}(h:n≤m)(g:m≤k):n≤k:=Nat.le_trans h g
theorem yao.{u}{α:Type u}{i:Nat}{l:List α}(h:l.length≤i):l.take i=l:=List.take_of_length_le h
theorem yap.{u}{α:Type u}{a:α}{s:List α}:(a::s).length=s.length+1:=rfl
theorem yaq{a b:ByteArray}:(a++b).size=a.size+b.size:=ByteArray.size_append
theorem yar.{u}{α:Type u}{l r:List α}{i:Nat}(h:l.length≤i):(l++r)[i]?=r[i-l.length]?:=List.getElem?_append_right h
theorem yas.{u}{α:Type u}{l r:List α}{i:Nat}(h:i<l.length):(l++r)[i]?=l[i]?:=List.getElem?_append_left h
theorem yat.{u}{α:Type u}{i:Nat}{l:List α}(h:i<l.length):l.take (i+1)=l.take i++[l[i]]:=List.take_succ_eq_append_getElem h
theorem yau(w:World)(c:Array Value)(t:TypeId)(i:Nat):(w.alloc (.cells c t)).cell? ⟨w.heap.size,i,none⟩=c[i]?:=World.cell?_alloc_new w c t i
theorem yav(w:World)(b:Nat)(e:TypeId)(s:Nat):w.ownsRow b e s (.slice none 0 0) 0 []:=World.ownsRow_nil w b e s
theorem yaw.{u}{α:Type u}[BEq α][LawfulBEq α]{a b:α}(h:a≠b):(a==b)=false:=beq_false_of_ne h
theorem yax{p:Prop}[Decidable p](h:¬p):decide p=false:=decide_eq_false h
theorem yay{P:Program}{fn:Func}{R:Ending→World→Prop}{a:Act}{w:World}{v:Value}(h:Sem.run P (results fn a.tmps) w=.ok v w)(g:a.defers=[])(k:R (.returned v) w):bodyPost P fn R .ret a w:=bodyPost_ret h g k
open Go.RowKit
theorem xaa{P:Prop}(h:P:=by omega):P:=h
theorem xab{P:Prop}(h:P:=by decide):P:=h
theorem xac{P:Prop}(h:P:=by simp):P:=h
theorem xad{P:Prop}(h:P:=by
 conv=>arg 2;whnf
 go_region_with (first
  |(go_at_call 24;refine yai (HC.out _ ((eC W).trans k1)) ?_;rintro e w2 ⟨g',cap',rfl,⟨u0,r0⟩,⟨u1,r1⟩,⟨u2,r2⟩,rf,_,hM2⟩;have rf0:=rf 0;have rf1:=rf 1;have rf2:=rf 2;clear rf)
  |(go_at_call 26;refine yai (gj _ _ _ _ _ _) ?_;rintro e w1 ⟨rfl,k1⟩;have p0:=(MS.keep HM.out ((eC W).trans k1)).g.c0;have p1:=(MS.keep HM.out ((eC W).trans k1)).g.c1;have p2:=(MS.keep HM.out ((eC W).trans k1)).g.c2))
 all_goals exact HK _ ⟨_,_,_,⟨rfl,by simp⟩,by simp,hM2⟩):P:=h
theorem xae{P:Prop}(h:P:=by
 have s0:=HM.out.g.c0
 have s1:=HM.out.g.c1
 have s2:=HM.out.g.c2
 exact xad):P:=h
theorem xaf{P:Prop}(h:P:=by
 rcases r1 with⟨c,p⟩|⟨s1,x⟩
 ·exact xhk
 ·exact xag):P:=h
theorem xag{P:Prop}(h:P:=by
 obtain⟨gw1,hx⟩:=HG.out s1 x rfl
 have hx0:¬((x:Int)<0):=xaa
 go_upto_region 8 with (go_at_call 75;refine yai HC1'.out ?_;rintro e w2 ⟨rfl,v1,v2,v3,v4,hW2,hM2⟩)
 have HC3:Hid _:=HC2'.out s1 x rfl w2 v1 v2 v3 v4 hW2 hM2
 have HM2:Hid _:=hM2
 clear HC1' HC2' hW2 hM2
 rcases r2 with⟨c,p⟩|⟨s2,y⟩
 ·exact xgr
 ·exact xah):P:=h
theorem xah{P:Prop}(h:P:=by
 obtain⟨gw2,hy⟩:=HG2.out s1 x rfl s2 y rfl
 have hy0:¬((y:Int)<0):=xaa
 go_upto_region 11 with (go_at_call 75;refine yai HC3.out ?_;rintro e w3 ⟨rfl,z1,z2,z3,z4,hW3,hM3⟩)
 have hM3':=HM2.out.trans hM3
 have hT3:=HTk.out w3 _ hM3'
 have hx2:x<s2.vs.length:=yaj hx gw2.n
 have ka:=ez 0 0 w3 (.cells #[.int .i64 (x:Int),.int .i64 (y:Int)] 3)
 have HFt:Hid _:=tY (hW3.keep ka) gw2.g _ 2 2 [x,y] (Bo hW3.far x y) xaa (by intro i hi;simp at hi;rcases hi with rfl|rfl<;>assumption) (ts.getD k Tok.zero).pos
 have HR2:Hid (r=m6 s2 (ts.getD k Tok.zero) x y):=HR.out
 have HM3:Hid _:=hM3'.keep ka
 have HGw:Hid _:=gw2
 have HXY:Hid (∀i∈[x,y],i<s2.vs.length):=by intro i hi;simp at hi;rcases hi with rfl|rfl<;>assumption
 have c1:=hT3.c1 k hk
 have d1:(w3.alloc (.cells #[.int .i64 (x:Int),.int .i64 (y:Int)] 3)).cell? ⟨g,off+k*3+1,none⟩=_:=(ka.cell (p:=⟨g,off+k*3+1,none⟩) hT3.lt xaa).trans c1
 clear HR HG HG2 HC3 HM2 hW3 hM3 hM3' hT3 gw1 hx ka gw2
 obtain⟨tk,htk⟩:∃tk,ts.getD k Tok.zero=tk:=⟨_,rfl⟩
 have HTt:Hid _:=htk
 rw[htk] at c1 d1 HFt HR2
 clear htk
 obtain⟨tsy,tps,ttx⟩:=tk
 simp only at c1 d1 HFt HR2
 cases hft:iY s2 [x,y] tps with
 |error f=>
  obtain⟨c,p⟩:=f
  rw[hft] at HFt
  have R:Hid (r=.error (c,p)):=HR2.out.trans (ux hft)
  clear hft HR2
  go_wp2_with (go_at_call 108;refine yai HFt.out ?_;rintro e w4 ⟨rfl,hT⟩)
  go_ret
  rw[R.out]
  exact⟨rfl,hT.1,hT.2.1,HM3.out.bad hT.2.2⟩
 |ok q=>
  obtain⟨s3,fs⟩:=q
  rw[hft] at HFt
  have R:Hid (r=_):=HR2.out.trans (wO hft)
  obtain⟨gw3,hfl,nn,hfs⟩:=jH HGw.out.g [x,y] tps HXY.out hft
  clear hft HR2
  obtain⟨fs0,fs1,rfl⟩:∃a b,fs=[a,b]:=by
   match fs,hfl with
   |[a,b],_=>exact⟨a,b,rfl⟩
  have h0:=(hfs fs0 xac).1
  have h1:=(hfs fs1 xac).1
  go_upto_region 14 with (go_at_call 108;refine yai HFt.out ?_;rintro e w4 ⟨aF,cF,rfl,y1,y2,y3,y4,hW4,hM4,hX4⟩)
  have hT4:=HTk.out w4 _ (HM3.out.trans hM4)
  obtain⟨gv,cv,e2,hgv,cl⟩:=hW4.lenc h0
  obtain⟨gf,of,e3,hgf,hgl,cf⟩:=hX4.at_ xac
  subst e2 e3
  have hgM:¬Mst P y1 (.slice (some ⟨gv,0,none⟩) s3.vs.length cv) y3 y4 g:=λc=>((HM3.out.trans hM4).new g c).elim HTg.out.1 (λc=>by have:=HTg.out.2;omega)
  have HCl:Hid (∀W',Kept 0 0 w4 W'->W'.cell? ⟨g,off+k*3,none⟩=some (eE tsy)/\W'.cell? ⟨g,off+k*3+1,none⟩=some (.int .i64 (tps:Int))/\W'.cell? ⟨P,1,none⟩=some (.slice (some ⟨gv,0,none⟩) s3.vs.length cv)/\W'.cell? ⟨gv,fs0*6+1,none⟩=some (.int .i64 (eU s3 fs0))/\W'.cell? ⟨gf,of,none⟩=some (.int .i64 (fs0:Nat))/\W'.cell? ⟨gf,of+1,none⟩=some (.int .i64 (fs1:Nat))):=λW' kk=>⟨(kk.cell (p:=⟨g,off+k*3,none⟩) hT4.lt xaa).trans (by have:=hT4.c0 k hk;rw[HTt.out] at this;exact this),(kk.cell (p:=⟨g,off+k*3+1,none⟩) hT4.lt xaa).trans (by have:=hT4.c1 k hk;rw[HTt.out] at this;exact this),(hW4.keep kk).c1,(kk.cell (p:=⟨gv,fs0*6+1,none⟩) hgv xaa).trans cl,(kk.cell (p:=⟨gf,of,none⟩) hgl xaa).trans (cf 0 xac),(kk.cell (p:=⟨gf,of+1,none⟩) hgl xaa).trans (cf 1 xac)⟩
  have HPt:Hid (∀W',Kept 0 0 w4 W'->Calls prog 78 #[.pointer (some ⟨P,0,none⟩),(eI (lq tsy) (eU s3 fs0) (fs0:Nat) (fs1:Nat) 0).agg,.int .i64 (tps:Int)] W' λe W''=>(∃x:Int,e=.returned (.int .i64 x))/\Hid (TrO W P B u1 u2 u3 u4 bs r e W'')/\W''.cell? ⟨g,off+k*3,none⟩=some (eE tsy)/\W''.cell? ⟨g,off+k*3+1,none⟩=some (.int .i64 (tps:Int))/\W''.cell? ⟨gf,of,none⟩=some (.int .i64 (fs0:Nat))/\W''.cell? ⟨gf,of+1,none⟩=some (.int .i64 (fs1:Nat))):=λW' kk=>yai (jV (hW4.keep kk) gw3.g (eI (lq tsy) (eU s3 fs0) (fs0:Nat) (fs1:Nat) 0) (gw3.g.lenB h0) yag tps) (λe W'' t=>⟨t.ret,by
   show TrO W P B u1 u2 u3 u4 bs r e W''
   rw[R.out]
   exact TrO.after ((HM3.out.trans hM4).keep kk) t,by
   obtain⟨q0,q1,_,_,q4,q5⟩:=HCl.out W' kk
   have cc:=t.chg
   have lg:g<W'.heap.size:=yaj hT4.lt kk.size
   have lf:gf<W'.heap.size:=yaj hgl kk.size
   exact⟨(cc.cell (p:=⟨g,off+k*3,none⟩) lg hgM).trans q0,(cc.cell (p:=⟨g,off+k*3+1,none⟩) lg hgM).trans q1,(cc.cell (p:=⟨gf,of,none⟩) lf hgf).trans q4,(cc.cell (p:=⟨gf,of+1,none⟩) lf hgf).trans q5⟩⟩)
  have hN:=gw3.g.n
  have HOp:Hid (∀W',Calls prog 109 #[eE tsy] W' λe w'=>e=.returned (.int .i64 (lq tsy))/\w'=W'):=λW'=>As tsy W'
  generalize eU s3 fs0=l at HCl HPt
  generalize lq tsy=oo at HOp HPt
  generalize s3.vs.length=N at*
  clear cl cf hT4 hW4 hM4 hX4 gw3 hfs HFt R HM3 HTk HGw HXY c1 d1 HO1 hfl hgf hgl hgv HTt hgM HTg
  obtain⟨a0,a1,a2,a3,a4,a5⟩:=HCl.out w4 (Kept.refl 0 0 w4)
  go_region_held3 (λw'=>w'.cell? ⟨g,off+k*3,none⟩=some (eE tsy)/\w'.cell? ⟨g,off+k*3+1,none⟩=some (.int .i64 (tps:Int))/\w'.cell? ⟨gf,of,none⟩=some (.int .i64 (fs0:Nat))/\w'.cell? ⟨gf,of+1,none⟩=some (.int .i64 (fs1:Nat))) (go_keep)
   (first
    |(go_at_call 109;refine yai (HOp.out _) ?_;rintro e w5 ⟨rfl,hw⟩;obtain rfl:=hw.symm)
    |(go_at_call 26;refine yai (gj _ _ _ _ _ _) ?_;rintro e w6 ⟨rfl,k6⟩;obtain⟨t0,t1,t2,t3,t4,t5⟩:=HCl.out w6 ((eC w4).trans k6))
    |(go_at_call 78;refine yai (HPt.out _ ((eC w4).trans k6)) ?_;rintro e w7 ⟨⟨xx,rfl⟩,hT,g0,g1,g2,g3⟩))
  all_goals (go_wp2_with fail;go_ret;exact hT.out)):P:=h
theorem xai{P:Prop}(h:P:=by
 obtain⟨z1,z2,z3,z4,hWk,hMk,hOk⟩:=hFI.out.ex
 have hMk1:Mv (Mst P u1 u2 u3 u4) W1 (Mst P z1 z2 z3 z4) wr:=⟨hMk.chg,λb hb=>hMk.new b (.inl hb)⟩
 obtain⟨rk,erk,hEk,hOk2⟩:=kj _ es st R HAr.out k (by rw[HEs.out];exact hlt) s xs hArg.out
 obtain⟨o,n1,c1,sk,hck⟩:=HA'.out.call k (by rw[HEs.out];exact hlt)
 obtain⟨hGk,hCk⟩:=hck s rk wr z1 z2 z3 z4 hGw.out erk hWk ((Mv.of HK.out).trans hMk1)
 rw[<-HA'.out.cell ((Mv.of HK.out).trans hMk1).chg k] at sk
 have HEk:Hid _:=hEk
 have HOk2:Hid _:=hOk2
 have HGk:Hid _:=hGk
 have HCk:Hid _:=hCk
 have HMk:Hid _:=hMk
 have HOk:Hid _:=hOk
 have HMk1:Hid _:=(Mv.of (M:=Mst P u1 u2 u3 u4) HK.out).trans hMk1
 clear erk hEk hOk2 hGk hCk hck hWk hMk hOk hMk1
 rcases rk with⟨c,p⟩|⟨s2,a2⟩
 ·exact xcn
 ·exact xan):P:=h
theorem xaj{P:Prop}(h:P:=by
 have HC:Hid _:=jg ((HF.out wr HN2.out.k).cut (i:=i) (j:=j) HBj.out.2) (cap-i)
 have hb2:=HBj.out.1
 have z0:(0:Int)<=(i:Int):=xaa
 have z1:(i:Int)<=(j:Int):=xaa
 have z2:(j:Int)<=(cap:Int):=by have:=HBj.out.2;omega
 have e1:((j:Int)-(i:Int)).toNat=j-i:=xaa
 have y2:=HN2.out.t.c2
 have y3:=HN2.out.t.fr 2
 have hc:=HC.out
 go_upto_region 25 with fail
 change Code.wp _ _ _ _ (wr.setCell ⟨w.heap.size+1,2,none⟩ (eE (gJ t i j)))
 have HN1:Hid _:=HN2.out.text (gJ t i j)
 clear HC hc y2 y3 hb2 z0 z1 z2 e1
 generalize wr.setCell ⟨w.heap.size+1,2,none⟩ (eE (gJ t i j))=W1 at HN1 ⊢
 generalize hx:gJ t i j=x at HN1
 have HX:Hid (gJ t i j=x):=hx
 clear hx
 obtain⟨_,r0,r1,r2,rf⟩:=HN1.out.r
 obtain⟨_,t0,t1,t2,tf⟩:=HN1.out.t
 have rf0:=rf 0
 have rf1:=rf 1
 have rf2:=rf 2
 have R:Hid _:=HN1.out.fin
 clear rf tf HN1
 go_wp2_with fail
 change bodyPost _ _ _ _ _ (((W1.setCell ⟨w.heap.size,0,none⟩ (eE gm)).setCell ⟨w.heap.size,1,none⟩ (.int .i64 (i:Int))).setCell ⟨w.heap.size,2,none⟩ (eE x))
 generalize ((W1.setCell ⟨w.heap.size,0,none⟩ (eE gm)).setCell ⟨w.heap.size,1,none⟩ (.int .i64 (i:Int))).setCell ⟨w.heap.size,2,none⟩ (eE x)=W5 at R ⊢
 obtain⟨⟨_,f0,f1,f2,_⟩,kF⟩:=R.out
 refine yay (v:=.tuple #[.agg #[eE gm,.int .i64 (i:Int),eE x],.int .i64 (j:Int)]) (by simp[results,results71,go_sem,f0,f1,f2]) rfl ⟨?_,kF⟩
 rw[HA.out.1,HA.out.2,HX.out];rfl):P:=h
theorem xak{P:Prop}(h:P:=by
 intros
 rename_i HK
 have s0:=HM.out.g.c0
 have s1:=HM.out.g.c1
 have s2:=HM.out.g.c2
 obtain⟨_,t0,t1,t2,x0,x1,x2⟩:=HM.out.b
 have HLast:Hid (∀W:World,_):=λW=>ir W b1 a2 b3 m1 e1 vs.length cap m3 e3 xaa
 rw[hN] at HLast
 clear hN
 conv=>arg 2;whnf
 go_region_with (first
  |(go_at_call 27;refine yai (HLast.out _) ?_;rintro e w3 ⟨rfl,k3⟩;clear t0 t1 t2 x0 x1 x2;obtain⟨⟨_,_,q0,q1,q2,_,_,_,_⟩,⟨_,t0,t1,t2,x0,x1,x2⟩,_,_,_,_,_⟩:=MS.keep HM.out ((eC W).trans k3)))
 all_goals
  obtain⟨y0,y1,y2⟩:=eY w3 (w.heap.size+1) _ _ _ t0 t1 t2 (.slice b1 m1 e1) (.slice a2 vs.length cap) (.slice b3 m3 e3)
  exact HK _ ⟨y0,y1,y2,⟨w3,(eC W).trans k3,rfl⟩⟩):P:=h
theorem xal{P:Prop}(h:P:=by
 unfold MfC
 exact xak):P:=h
theorem xam{P:Prop}(h:P:=by
 clear HM
 unfold PfK
 intros
 rename_i wc hR
 obtain⟨vs1,g',cap',HV1,hL1,HM⟩:=hR
 go_wp2_with fail
 refine fg (jk HM xaa (show(vs1.length:Int)-1=((vs.length:Nat):Int) by have:=HV1.out.2;omega) ?_)
 unfold PfK
 intros
 rename_i W3 hR
 obtain⟨y0,y1,y2,HR⟩:=hR
 go_wp2_with fail
 exact yay (by simp[results,results150,go_sem,y0,y1,y2]) rfl (MS.finPR HM.out HR.out (by rw[HV1.out.1]<;>simp))):P:=h
theorem xan{P:Prop}(h:P:=by
 obtain⟨gw2,ha2⟩:=HGk.out s2 a2 rfl
 have ha20:¬((a2:Int)<0):=xaa
 have HA2:Hid (fF (λs e=>eJ f s loc e) st (es.take (k+1))=some (.ok (s2,xs++[a2]))):=HOk2.out s2 a2 rfl
 have HGw2:Hid _:=hGw.out.trans gw2
 have HX2:Hid (∀i∈xs++[a2],i<s2.vs.length):=by
  exact xdj
 go_upto_region 41 with (go_at_call 75;refine yai HCk.out ?_;rintro e w4 ⟨rfl,y1,y2,y3,y4,hW4,hM4⟩)
 have HFn:Hid _:=FtI.step HMk.out HOk.out hFI.out.row hW4 hM4
 have HSn:Hid (W1.heap.size<=w4.heap.size):=by show _<=_;have:=HMk.out.chg.size;have:=hM4.chg.size;omega
 have HNm:Hid (s2.names=st.names):=HGw2.out.m
 have hCn:(w4.alloc (.cells #[.int .i64 (a2:Int)] 3)).cell? ⟨w4.heap.size,0,none⟩=some (.int .i64 (a2:Int)):=by rw[yau];rfl
 have kA:=ez 0 0 w4 (.cells #[.int .i64 (a2:Int)] 3)
 have HFB:Hid _:=HFn.out.keep kA
 clear HFn hFI HMk HOk HMk1 HGk HCk HEk HOk2 sk hW4 hM4 hGw hXs hArg gw2
 go_wp2_with (first|(at_builtin;refine iN _ rfl _ _ rfl W1.heap.size _ xs rfl HFB.out.row ⟨w4.heap.size,0,none⟩ a2 rfl hCn ?c2 ?c3 ?_)|fail)
 case c2=>have:=HXL.out;omega
 case c3=>have:=HSn.out;simp;omega
 intro g9 cap9 n9 w9 hn9 hR9 hC9 hG9
 have R1:Hid _:=FtI.app (st:=s2) (HW.out.keep HK.out) HNm.out HFB.out hR9 hC9 (hG9.imp id (λe=>by rw[e];simp))
 clear hR9 hC9 hG9 hn9 kA hCn
 go_wp2_with fail
 go_roundw
 case rel=>exact⟨k+1,s2,xs++[a2],by omega,by omega,by go_num,by rw[yak,HXL.out];rfl,HA2,R1,HGw2,HX2⟩
 case measure=>simp[intOf];omega):P:=h
theorem xao{P:Prop}(h:P:=by
 have HC:Hid _:=jg ((HF.out wr HN.out.k).cut (i:=i) (j:=j) HB.out.1) (cap-i)
 have hb2:=HB.out.2
 have z0:(0:Int)<=(i:Int):=xaa
 have z1:(i:Int)<=(j:Int):=xaa
 have z2:(j:Int)<=(cap:Int):=by have:=HB.out.1;omega
 have e1:((j:Int)-(i:Int)).toNat=j-i:=xaa
 have y2:=HN.out.t.c2
 have y3:=HN.out.t.fr 2
 have hc:=HC.out
 go_upto_region 7 with fail
 change Code.wp _ _ _ _ (wr.setCell ⟨w.heap.size+1,2,none⟩ (eE (gJ t i j)))
 have HN1:Hid _:=HN.out.text (gJ t i j)
 clear HC hc y2 y3 hb2 z0 z1 z2 e1
 generalize wr.setCell ⟨w.heap.size+1,2,none⟩ (eE (gJ t i j))=W1 at HN1 ⊢
 generalize hx:gJ t i j=x at HN1 ⊢
 have HX:Hid (gJ t i j=x):=hx
 clear hx
 have y2:=HN1.out.t.c0
 have y3:=HN1.out.t.fr 0
 go_upto_region 8 with fail
 change Code.wp _ _ _ _ (W1.setCell ⟨w.heap.size+1,0,none⟩ (eE f8))
 have HN2:Hid _:=HN1.out.sym f8
 clear y2 y3 HN1
 generalize W1.setCell ⟨w.heap.size+1,0,none⟩ (eE f8)=W2 at HN2 ⊢
 go_upto_region 9 with (go_at_call 104;refine yai (zW _) ?_;rintro e W3 ⟨rfl,rfl⟩)
 have HK3:Hid (KI w (W2.alloc (.cells jp 9)) W2.heap.size x i 0):=zZ HN2.out
 generalize W2.alloc (.cells jp 9)=W3 at HK3 ⊢
 generalize W2.heap.size=B at HK3 ⊢
 clear HN2
 go_wp2_with fail
 go_loopw [9] (λiv W=>∃k:Nat,k<=15/\iv=.int .i64 k/\Hid (KI w W B x i k)) (λiv _=>15-(intOf iv).toNat)
 case atStart=>exact⟨0,by omega,rfl,HK3⟩
 case round=>
  exact xat):P:=h
theorem xap{P:Prop}(h:P:=by
 have hl:=HLi.out
 generalize Lib.bytesWorld wr 5 ⟨tx.toArray⟩=W2 at hcv' HY HKc
 generalize wr.heap.size=b3 at hcv' HY
 generalize grownCap wr tx.length 0 5=cc at hcv'
 go_upto_region 12 with (go_at_call 45;refine yai (nJ W2 _ _ _ _ HY.out xaa) ?_;rintro e w4 ⟨fl,c,rfl,hRN,hD⟩)
 have HKn:Hid _:=(hK.out.trans HKc.out).trans (hD.kept 0 0)
 have q1':=HQ1.out w4 (HKc.out.trans (hD.kept 0 0))
 rcases HNo.out with⟨hlt0,hno⟩|⟨hie,hbd⟩
 ·exact xfv
 ·exact xar):P:=h
theorem xaq{P:Prop}(h:P:=by
 go_enter func79,ntmps79
 go_wp2_with ((first
  |(go_at_call 80;refine(A.2 _ _ HS).mono ?_)
  |(go_at_call 19;refine(nxS HS.out).mono ?_)
  |(go_at_call 115;refine(B.2 _ _ HS).mono ?_)
  |(go_at_call 47;refine((D _).2 _ _ HS).mono ?_));rintro e w1 ⟨rfl,hS⟩;clear HS;have HS:Hid _:=hS;clear hS)
 go_ret
 exact⟨rfl,HS.out⟩):P:=h
theorem xar{P:Prop}(h:P:=by
 have hcc:c=cb/\c≠0:=by
  exact xem
 have hc2:(c !=0)=true:=by unfold bne;rw[yaw hcc.2];rfl
 have HKz:Hid _:=HK3.out.trans HKn.out
 obtain⟨g0,g1,g2,fr⟩:=HG.out w4 HKz.out
 have f0:=fr 0
 have f1:=fr 1
 have f2:=fr 2
 have s1:(((w4.drew.setCell ⟨bx,0,none⟩ (.slice none 0 0)).setCell ⟨bx,1,none⟩ (.slice none 0 0)).setCell ⟨bx,2,none⟩ (.slice none 0 0)).cell? ⟨gT,i*3+1,none⟩=some (.int .i64 (ps:Int)):=by
  exact xig
 obtain⟨y0,y1,y2⟩:=eY w4 bx _ _ _ g0 g1 g2 (.slice none 0 0) (.slice none 0 0) (.slice none 0 0)
 have z0:(w4.setCell ⟨bx,0,none⟩ (.slice none 0 0)).cell? ⟨bx,0,none⟩=some (.slice none 0 0):=fR _ _ _ _ _ g0
 have z1:((w4.setCell ⟨bx,0,none⟩ (.slice none 0 0)).setCell ⟨bx,1,none⟩ (.slice none 0 0)).cell? ⟨bx,1,none⟩=some (.slice none 0 0):=fR _ _ _ _ _ ((eW _ _ _ _ _ _ (.inr xaa)).trans g1)
 have R:Hid (Kept 0 0 w (((w4.drew.setCell ⟨bx,0,none⟩ (.slice none 0 0)).setCell ⟨bx,1,none⟩ (.slice none 0 0)).setCell ⟨bx,2,none⟩ (.slice none 0 0))):=uD ((HK.out.trans HKz.out).trans (eC w4)) (Nat.le_of_eq HBx.out) _ _ _
 have HPs:Hid ((T.getD i0 Tok.zero).pos=ps):=HEq.out hie
 have HCb:Hid (c=cb):=hcc.1
 clear hcc hbd hRN hie HNo HY HKc hcv' hD q0 q1 q2 fr HG
 go_upto_region 13 with fail
 go_region
 all_goals (
  go_wp2_with fail
  refine yay (v:=.tuple #[rh,.int .i64 c,.int .i64 (ps:Int)]) (by simp[results,results21,go_sem,z0,z1,y2]) rfl ?_
  rw[<-HTe.out,HPs.out,<-HCb.out]
  exact⟨rfl,R.out⟩)):P:=h
theorem xas{P:Prop}(h:P:=by
 rw[show fi 11 len C la lb lc=false by rw[Bool.eq_false_iff];intro hh;simp[fi,eQ,cnt,lenB,fC] at hh;omega]
 exact xau):P:=h
theorem xat{P:Prop}(h:P:=by
 obtain⟨k,hk,rfl,hI⟩:=hrel
 by_cases hk15:k<15
 ·exact xcd
 ·exact xbp):P:=h
theorem xau{P:Prop}(h:P:=by
 clear a0
 go_enter func38,ntmps38
 go_wp2_with (first|(go_at_call 69;refine(fD _ _ xaa xaa).mono ?_;rintro e w2 ⟨rfl,rfl⟩;simp only[show gg 11=false from rfl])|(go_at_call 36;refine(eV _ _ xaa xaa).mono ?_;rintro e w2 ⟨rfl,rfl⟩;simp only[show ig 11=1 from rfl]))
 go_ret
 exact⟨rfl,rfl⟩):P:=h
theorem xav{P:Prop}(h:P:=by
 have v3:=HM.out.v.c3
 exact xad):P:=h
theorem xaw{P:Prop}(h:P:=by
 obtain⟨⟨v0,v1,v2,v3,v4,v5⟩,j0,j1,hg2,wB,hB,hn,HM,HO⟩:=H.op b1 b3 m1 e1 m3 e3
 clear H
 unfold MvC
 go_enter func151,ntmps151
 go_wp2_with fail
 rw[hB.out]
 clear v0 v1 v2 v3 v4 v5 hB
 refine fg (zm HM xaa ?_)
 clear HM
 unfold MfK
 intros
 rename_i wc hR
 obtain⟨vs1,g',cap',HV1,hL1,HM⟩:=hR
 obtain⟨_,_,s0,s1,s2,_,_,_,_⟩:=HM.out.g
 go_wp2_with fail
 refine(MS.lst HM.out xaa (show(vs1.length:Int)-1=((vs.length:Nat):Int) by have:=HV1.out.2;omega)).mono ?_
 clear HM s0 s1 s2
 rintro e wl ⟨rfl,HM⟩
 obtain⟨_,_,s0,s1,s2,_,_,_,_⟩:=HM.out.g
 go_wp2_with fail
 refine(MS.orX HM.out ta ln xaa).mono ?_
 clear HM s0 s1 s2
 rintro e w2 ⟨vs2,mm2,aa2,cc2,RR2,wd,HV2,hL2,rfl,⟨_,r0⟩,⟨_,r1⟩,⟨_,r2⟩,rf0,rf1,rf2,hD,HM⟩
 go_wp2_with fail
 rw[hD.out]
 clear hD r0 r1 r2 rf0 rf1 rf2
 obtain⟨_,_,s0,s1,s2,_,_,_,_⟩:=HM.out.g
 go_wp2_with fail
 refine(MS.orX HM.out tb ln xaa).mono ?_
 clear HM s0 s1 s2
 rintro e w2 ⟨vs3,mm3,aa3,cc3,RR3,wd,HV3,hL3,rfl,⟨_,r0⟩,⟨_,r1⟩,⟨_,r2⟩,rf0,rf1,rf2,hD,HM⟩
 go_wp2_with fail
 rw[hD.out]
 clear hD r0 r1 r2 rf0 rf1 rf2
 refine fg (sJ HM xaa ?_)
 clear HM
 unfold MfK
 intros
 rename_i wc hR
 obtain⟨vs4,g',cap',HV4,hL4,HM⟩:=hR
 go_wp2_with fail
 have hE:=A9 (vs:=vs) (ln:=ln) (va:=va) (vb:=vb) (ta:=ta) (tb:=tb) xaa xaa HV1.out.1 HV2.out HV3.out HV4.out.1
 exact xbv):P:=h
theorem xax{P:Prop}(h:P:=by
 clear HM
 unfold MfK
 intros
 rename_i wc hR
 obtain⟨vs1,g',cap',HV1,hL1,HM⟩:=hR
 obtain⟨_,_,s0,s1,s2,_,_,_,_⟩:=HM.out.g
 go_wp2_with fail
 refine(MS.lst HM.out xaa (show(vs1.length:Int)-1=((vs.length:Nat):Int) by have:=HV1.out.2;omega)).mono ?_
 clear HM s0 s1 s2
 rintro e wl ⟨rfl,HM⟩
 have v0:=HM.out.v.c0
 have tp0:(0:Int)<=((vs.length:Nat):Int):=xaa
 obtain⟨_,_,s0,s1,s2,_,_,_,_⟩:=HM.out.g
 obtain⟨_,t0,t1,t2,x0,x1,x2⟩:=HM.out.b
 go_wp2_with fail
 obtain⟨y0,y1,y2⟩:=eY wl (w.heap.size+1) _ _ _ t0 t1 t2 (.slice b1 m1 e1) (.slice (some ⟨g',0,none⟩) vs1.length cap') (.slice b3 m3 e3)
 exact yay (by simp[results,results151,go_sem,y0,y1,y2]) rfl (MS.fin HM.out (Kept.refl 0 0 _) (by rw[HV1.out.1]<;>simp))):P:=h
theorem xay{P:Prop}(h:P:=by
 go_upto_region 24 with fail
 clear c1
 exact xaj):P:=h
theorem xaz{P:Prop}(h:P:=by
 have HC:Hid _:=jg ((HF.out wr HN3.out.k).cut (i:=i) (j:=k) HBj.out.2) (cap-i)
 have hb2:=HBj.out.1
 have z0:(0:Int)<=(i:Int):=xaa
 have z1:(i:Int)<=(k:Int):=xaa
 have z2:(k:Int)<=(cap:Int):=by have:=HBj.out.2;omega
 have e1:((k:Int)-(i:Int)).toNat=k-i:=xaa
 have y2:=HN3.out.t.c2
 have y3:=HN3.out.t.fr 2
 have hc:=HC.out
 go_upto_region 25 with fail
 change Code.wp _ _ _ _ (wr.setCell ⟨w.heap.size+1,2,none⟩ (eE (gJ t i k)))
 have HN1:Hid _:=HN3.out.text (gJ t i k)
 clear HC hc y2 y3 hb2 z0 z1 z2 e1
 generalize wr.setCell ⟨w.heap.size+1,2,none⟩ (eE (gJ t i k))=W1 at HN1 ⊢
 generalize hx:gJ t i k=x at HN1
 have HX:Hid (gJ t i k=x):=hx
 clear hx
 obtain⟨_,r0,r1,r2,rf⟩:=HN1.out.r
 obtain⟨_,t0,t1,t2,tf⟩:=HN1.out.t
 have rf0:=rf 0
 have rf1:=rf 1
 have rf2:=rf 2
 have R:Hid _:=HN1.out.fin
 clear rf tf HN1
 go_wp2_with fail
 change bodyPost _ _ _ _ _ (((W1.setCell ⟨w.heap.size,0,none⟩ (eE iT)).setCell ⟨w.heap.size,1,none⟩ (.int .i64 (i:Int))).setCell ⟨w.heap.size,2,none⟩ (eE x))
 generalize ((W1.setCell ⟨w.heap.size,0,none⟩ (eE iT)).setCell ⟨w.heap.size,1,none⟩ (.int .i64 (i:Int))).setCell ⟨w.heap.size,2,none⟩ (eE x)=W5 at R ⊢
 obtain⟨⟨_,f0,f1,f2,_⟩,kF⟩:=R.out
 refine yay (v:=.tuple #[.agg #[eE iT,.int .i64 (i:Int),eE x],.int .i64 (k:Int)]) (by simp[results,results71,go_sem,f0,f1,f2]) rfl ⟨?_,kF⟩
 rw[HA.out.1,HA.out.2,HX.out];rfl):P:=h
theorem xba{P:Prop}(h:P:=by
 go_upto_region 31 with fail
 obtain⟨_,t0,t1,t2,_,_,_⟩:=HD4.out.bx
 obtain⟨_,r0,r1,r2,rf0,rf1,rf2⟩:=HD4.out.rs
 go_wp2_with fail
 obtain⟨p0,p1,p2⟩:=eY _ (w.heap.size+1) _ _ _ r0 r1 r2 (.slice a1 ins.length c1) (.slice (some ⟨g,0,none⟩) vs.length c2) (.slice a3 outs.length c3)
 exact yay (v:=eR a1 ins.length c1 (some ⟨g,0,none⟩) vs.length c2 a3 outs.length c3) (by simp[results,results42,go_sem,p0,p1,p2]) rfl HFin.out):P:=h
theorem xbb{P:Prop}(h:P:=by
 obtain⟨⟨v0,v1,v2,v3,v4,v5⟩,j0,j1,hg2,wB,hB,hn,HM,HO⟩:=H.op b1 b3 m1 e1 m3 e3
 clear H
 unfold MvC
 go_enter func151,ntmps151
 go_wp2_with fail
 rw[hB.out]
 clear v0 v1 v2 v3 v4 v5 hB
 obtain⟨_,_,s0,s1,s2,_,_,_,_⟩:=HM.out.g
 refine(MS.orX HM.out tb ln xaa).mono ?_
 clear HM s0 s1 s2
 rintro e w2 ⟨vs1,mm1,aa1,cc1,RR1,wd,HV1,hL1,rfl,⟨_,r0⟩,⟨_,r1⟩,⟨_,r2⟩,rf0,rf1,rf2,hD,HM⟩
 go_wp2_with fail
 rw[hD.out]
 clear hD r0 r1 r2 rf0 rf1 rf2
 obtain⟨_,_,s0,s1,s2,_,_,_,_⟩:=HM.out.g
 go_wp2_with fail
 refine(MS.orX HM.out tc ln xaa).mono ?_
 clear HM s0 s1 s2
 rintro e w2 ⟨vs2,mm2,aa2,cc2,RR2,wd,HV2,hL2,rfl,⟨_,r0⟩,⟨_,r1⟩,⟨_,r2⟩,rf0,rf1,rf2,hD,HM⟩
 go_wp2_with fail
 rw[hD.out]
 clear hD r0 r1 r2 rf0 rf1 rf2
 refine fg (sJ HM xaa ?_)
 clear HM
 unfold MfK
 intros
 rename_i wc hR
 obtain⟨vs3,g',cap',HV3,hL3,HM⟩:=hR
 go_wp2_with fail
 have hE:=A8 (vs:=vs) (ln:=ln) (va:=va) (tb:=tb) (tc:=tc) xaa xaa HV1.out HV2.out HV3.out.1
 exact xbv):P:=h
theorem xbc{P:Prop}(h:P:=by
 generalize W.heap.size=bx at HB ⊢
 have b0:=HB.out.c0
 clear c0 c1 c2 HO1 HO2
 go_upto_region 22 with fail
 have b2:=HB.out.c2
 have hcv:=Lib.run_convert_string_bytes (P:=prog) W1 9 22 5 ⟨tx.toArray⟩ underlying9 underlying22 underlying5
 have HY:Hid (YS (Lib.bytesWorld W1 5 ⟨tx.toArray⟩) (some ⟨W1.heap.size,0,none⟩) tx.length (gc tx)):=nd W1 5 tx
 have HK2:Hid (Kept 0 0 W1 (Lib.bytesWorld W1 5 ⟨tx.toArray⟩)):=kK W1 5 ⟨tx.toArray⟩
 have hsz:(⟨tx.toArray⟩:ByteArray).size=tx.length:=rfl
 rw[hsz] at hcv
 have hcv':(convert 9 22 (eE tx)).run prog W1=_:=hcv
 clear hcv hsz
 generalize Lib.bytesWorld W1 5 ⟨tx.toArray⟩=W2 at hcv' HY HK2
 generalize W1.heap.size=b3 at hcv' HY
 generalize grownCap W1 tx.length 0 5=cc at hcv'
 go_upto_region 23 with (go_at_call 45;refine yai (nJ W2 _ _ _ _ HY.out xaa) ?_;rintro e w4 ⟨f,c,rfl,hRN,hD⟩)
 obtain⟨rfl,rfl⟩:=nT HN.out hRN
 have HK4:Hid _:=HK2.out.trans (hD.kept 0 0)
 have b1:=(HB.out.keep HK4.out).c1
 have HP4:Hid _:=HPt.out w4 (HK.out.trans HK4.out)
 clear HPt HY HK2 hcv' hD hRN b0 b2 HB HK4 HK HN
 generalize ll tx=nk at HP4
 go_wp2_with (go_at_call 78;refine yai HP4.out ?_;rintro e w5 ⟨⟨x,rfl⟩,hT⟩)
 go_ret
 exact hT.out):P:=h
theorem xbd{P:Prop}(h:P:=by
 refine⟨⟨#[102,105,108,108,40]⟩++s1++⟨#[44,32]⟩++s2++⟨#[41]⟩,j1,fS (by simp only[yaq,fQ,yap,List.length_nil];omega) xab λz X W HS=>?_⟩
 repeat (rw[yaq] at z;refine sz2 z ?_;clear z;intro _ z)
 exact xaq):P:=h
theorem xbe{P:Prop}(h:P:=by
 intros
 rename_i HK
 have HC:Hid (∀W1,Kept 0 0 W W1->_):=λW1 k=>MS.call HM.out k (eI 5 ln N vb 0) xaa
 have s0:=HM.out.g.c0
 have s1:=HM.out.g.c1
 have s2:=HM.out.g.c2
 have v3:=HM.out.v.c3
 have HLast:Hid (∀W:World,_):=λW=>ir W b1 a2 b3 m1 e1 vs.length cap m3 e3 xaa
 rw[hN] at HLast
 clear hN
 conv=>arg 2;whnf
 go_region_with (first
  |(go_at_call 24;refine yai (HC.out _ (((eC W).trans kl).trans k1)) ?_;rintro e w2 ⟨g',cap',rfl,⟨u0,r0⟩,⟨u1,r1⟩,⟨u2,r2⟩,rf,_,hM2⟩;have rf0:=rf 0;have rf1:=rf 1;have rf2:=rf 2;clear rf)
  |(go_at_call 27;refine yai (HLast.out _) ?_;rintro e wl ⟨rfl,kl⟩;have l0:=(MS.keep HM.out ((eC W).trans kl)).g.c0;have l1:=(MS.keep HM.out ((eC W).trans kl)).g.c1;have l2:=(MS.keep HM.out ((eC W).trans kl)).g.c2;have z3:=(MS.keep HM.out ((eC W).trans kl)).v.c3)
  |(go_at_call 26;refine yai (gj _ _ _ _ _ _) ?_;rintro e w1 ⟨rfl,k1⟩;have p0:=(MS.keep HM.out (((eC W).trans kl).trans k1)).g.c0;have p1:=(MS.keep HM.out (((eC W).trans kl).trans k1)).g.c1;have p2:=(MS.keep HM.out (((eC W).trans kl).trans k1)).g.c2))
 all_goals exact HK _ ⟨_,_,_,⟨rfl,by simp⟩,by simp,hM2⟩):P:=h
theorem xbf{P:Prop}(h:P:=by
 rcases Nat.lt_or_ge g W.heap.size with c|c
 ·exact c
 ·rw[Array.getElem?_eq_none c] at b2;cases b2):P:=h
theorem xbg{P:Prop}(h:P:=by
 have h1:=h.keep k
 refine(oj W1 b1 a2 b3 n1 e1 cap n3 e3 base vs u h1.g.own h1.g.sz hn).mono ?_
 rintro e w2 ⟨g',cap',rfl,own,s⟩
 rw[h.g.row] at s
 have hb:w2.heap[w.heap.size]? =W1.heap[w.heap.size]?:=s.chg.block w.heap.size h1.g.lt (by rintro (c|c);exact c;exact h.g.ne c)
 have e:∀o,w2.cell? ⟨w.heap.size,o,none⟩=W1.cell? ⟨w.heap.size,o,none⟩:=λo=>World.cell?_of_block (w:=W1) (a:=⟨w.heap.size,o,none⟩) hb
 have ef:∀o,w2.frozen? ⟨w.heap.size,o,none⟩=W1.frozen? ⟨w.heap.size,o,none⟩:=λo=>World.frozen?_of_block (w:=W1) (a:=⟨w.heap.size,o,none⟩) hb
 have hl:(vs++[u]).length=vs.length+1:=by simp
 have key:=h.step (vs2:=vs++[u]) (a2':=some ⟨g',0,none⟩) (cap':=cap') (l:=W.heap.size) (h':=W.heap.size) k (by rw[hl];exact own) (R':=some g') rfl s ((Kept.refl 0 0 w2).mono λ_ _ c=>by omega) yad (λg _=>by omega)
 rw[hl] at key
 exact⟨g',cap',rfl,⟨_,(e 0).trans h1.g.c0⟩,⟨_,(e 1).trans h1.g.c1⟩,⟨_,(e 2).trans h1.g.c2⟩,λo=>by rw[ef];exact h1.g.free o,key⟩):P:=h
theorem xbh{P:Prop}(h:P:=by
 clear a0
 go_enter func38,ntmps38
 go_wp2_with (first|(go_at_call 69;refine(fD _ _ xaa xaa).mono ?_;rintro e w2 ⟨rfl,rfl⟩;simp only[show gg 12=false from rfl])|(go_at_call 36;refine(eV _ _ xaa xaa).mono ?_;rintro e w2 ⟨rfl,rfl⟩;simp only[show ig 12=1 from rfl]))
 go_ret
 exact⟨rfl,rfl⟩):P:=h
theorem xbi{P:Prop}(h:P:=by
 clear a0
 go_enter func38,ntmps38
 go_wp2_with (first|(go_at_call 69;refine(fD _ _ xaa xaa).mono ?_;rintro e w2 ⟨rfl,rfl⟩;simp only[show gg 9=false from rfl])|(go_at_call 36;refine(eV _ _ xaa xaa).mono ?_;rintro e w2 ⟨rfl,rfl⟩;simp only[show ig 9=1 from rfl]))
 go_ret
 exact⟨rfl,rfl⟩):P:=h
theorem xbj{P:Prop}(h:P:=by
 obtain⟨⟨v0,v1,v2,v3,v4,v5⟩,j0,j1,hg2,wB,hB,hn,HM,HO⟩:=H.op b1 b3 m1 e1 m3 e3
 clear H
 unfold MvC
 go_enter func151,ntmps151
 go_wp2_with fail
 rw[hB.out]
 clear v0 v1 v2 v3 v4 v5 hB
 refine fg (rK HM xaa ?_)
 exact xax):P:=h
theorem xbk{P:Prop}(h:P:=by
 go_enter func38,ntmps38
 go_wp2_with (first|(go_at_call 69;refine(fD _ _ xaa xaa).mono ?_;rintro e w2 ⟨rfl,rfl⟩;simp only[show gg 8=true from rfl])|(go_at_call 36;refine(eV _ _ xaa xaa).mono ?_;rintro e w2 ⟨rfl,rfl⟩;simp only[show ig 8=3 from rfl]))
 go_ret
 exact⟨rfl,rfl⟩):P:=h
theorem xbl{P:Prop}(h:P:=by
 refine⟨s1,j1,fS xaa xab λz X W HS=>?_⟩
 repeat (rw[yaq] at z;refine sz2 z ?_;clear z;intro _ z)
 exact xaq):P:=h
theorem xbm{P:Prop}(h:P:=by
 go_wp2_with fail
 ·exact xbo):P:=h
theorem xbn{P:Prop}(h:P:=by
 clear HM
 unfold PfK
 intros
 rename_i wc hR
 obtain⟨vs3,g',cap',HV3,hL3,HM⟩:=hR
 go_wp2_with fail
 refine fg (jk HM xaa (show(vs3.length:Int)-1=(((vs.length:Nat):Int)+2) by have:=HV1.out.2;have:=HV2.out.2;have:=HV3.out.2;omega) ?_)
 unfold PfK
 intros
 rename_i W3 hR
 obtain⟨y0,y1,y2,HR⟩:=hR
 go_wp2_with fail
 exact yay (by simp[results,results150,go_sem,y0,y1,y2]) rfl (MS.finPR HM.out HR.out (by rw[HV3.out.1,HV2.out.1,HV1.out.1]<;>simp))):P:=h
theorem xbo{P:Prop}(h:P:=by
 obtain⟨_,q0,q1,q2,_,_,_⟩:=HS.out.bx
 have hc:=HC.out
 go_region_with (first|(go_at_call 24;refine yai (HF.out _ _ _ _ _ _ _ HS6.out HK6.out _ k3) ?_;rintro e W9 ⟨g',cap',rfl,hrb,hfin⟩;obtain⟨_,r0,r1,r2,rf0,rf1,rf2⟩:=hrb)|(go_at_call 26;refine yai (gj _ _ _ _ _ _) ?_;rintro e W3 ⟨rfl,k3⟩;obtain⟨_,s0,s1,s2,_,_,_⟩:=(HS6.out.keep k3).bx)|(go_at_call 19;refine yai (HS.out.keep (eC _)).next ?_;rintro e W6 ⟨rfl,S6,k6⟩;have HK6:Hid _:=HK.out.trans ((e8 (eC _)).trans k6);have HS6:Hid _:=S6;obtain⟨_,z0,z1,z2,_,_,_⟩:=S6.bx;clear S6 k6))
 all_goals
  go_wp2_with fail
  obtain⟨t0,t1,t2⟩:=eY W9 (w.heap.size+1) _ _ _ r0 r1 r2 (.slice a1 n1 c1) (.slice (some ⟨g',0,none⟩) (vs.length+1) cap') (.slice a3 n3 c3)
  exact yay (v:=eR a1 n1 c1 (some ⟨g',0,none⟩) (vs.length+1) cap' a3 n3 c3) (by simp[results,results28,go_sem,t0,t1,t2]) rfl hfin):P:=h
theorem xbp{P:Prop}(h:P:=by
 obtain rfl:k=15:=xaa
 have HN9:Hid _:=hI.out.n
 rw[show om x 15=jl x from rfl] at HN9
 obtain⟨_,r0,r1,r2,rf⟩:=HN9.out.r
 obtain⟨_,t0,t1,t2,tf⟩:=HN9.out.t
 have rf0:=rf 0
 have rf1:=rf 1
 have rf2:=rf 2
 have R:Hid _:=HN9.out.fin
 generalize hws:jl x=ws at t0 R
 have HWS:Hid (jl x=ws):=hws
 clear hI rf tf HN9 hws
 go_wp2_with fail
 change bodyPost _ _ _ _ _ (((wr.setCell ⟨w.heap.size,0,none⟩ (eE ws)).setCell ⟨w.heap.size,1,none⟩ (.int .i64 (i:Int))).setCell ⟨w.heap.size,2,none⟩ (eE x))
 generalize ((wr.setCell ⟨w.heap.size,0,none⟩ (eE ws)).setCell ⟨w.heap.size,1,none⟩ (.int .i64 (i:Int))).setCell ⟨w.heap.size,2,none⟩ (eE x)=W5 at R ⊢
 obtain⟨⟨_,f0,f1,f2,_⟩,kF⟩:=R.out
 refine yay (v:=.tuple #[.agg #[eE ws,.int .i64 (i:Int),eE x],.int .i64 (j:Int)]) (by simp[results,results71,go_sem,f0,f1,f2]) rfl ⟨?_,kF⟩
 rw[HX.out,HWS.out];rfl):P:=h
theorem xbq{P:Prop}(h:P:=by
 rw[show fi 12 len C la lb lc=false by rw[Bool.eq_false_iff];intro hh;simp[fi,eQ,cnt,lenB,fC] at hh;omega]
 exact xbh):P:=h
theorem xbr{P:Prop}(h:P:=by
 obtain⟨⟨v0,v1,v2,v3,v4,v5⟩,j0,j1,hg2,wB,hB,hn,HM,HO⟩:=H.op b1 b3 m1 e1 m3 e3
 clear H
 unfold MvC
 go_enter func151,ntmps151
 go_wp2_with fail
 exact yay (by simp[results,results151,go_sem]) rfl (oR HO.out (((ez 0 0 w _).trans (ez 0 0 _ _)).trans (ez 0 0 _ _)) _)):P:=h
theorem xbs{P:Prop}(h:P:=by
 rw[show fi 9 len C la lb lc=false by rw[Bool.eq_false_iff];intro hh;simp[fi,eQ,cnt,lenB] at hh;omega]
 exact xbi):P:=h
theorem xbt{P:Prop}(h:P:=by
 unfold MfK
 intros
 rename_i W3 hR
 obtain⟨y0,y1,y2,HR⟩:=hR
 go_wp2_with fail
 exact yay (by simp[results,results151,go_sem,y0,y1,y2]) rfl (MS.finR HM.out HR.out (by rw[HV1.out.1]<;>simp))):P:=h
theorem xbu{P:Prop}(h:P:=by
 generalize W.alloc (.cells #[.int .i64 2,.int .i64 3,.int .i64 4,.int .i64 5,.int .i64 7] 3)=W8 at*
 clear t0 t1 t2 tf0 tf1 tf2
 obtain⟨_,t0,t1,t2,tf0,tf1,tf2⟩:=HD.out.bx
 have hc0:0<=(c:Int)/8:=xaa
 have ew:IntKind.i64.wrap ((c:Int)/8)=(c:Int)/8:=by rw[IntKind.wrap_i64];omega
 have ft2:((c:Int)/8).tmod 5=(q:Int):=(Int.tmod_eq_emod_of_nonneg hc0).trans eq1
 clear hc n0 n1 n2 n6 h2 hcd hc0 eq1
 exact xbx):P:=h
theorem xbv{P:Prop}(h:P:=by
 have HE:Hid _:=hE
 clear hE
 refine fg (rL HM xaa (HE.out.2) ?_)
 unfold MfK
 intros
 rename_i W3 hR
 obtain⟨y0,y1,y2,HR⟩:=hR
 go_wp2_with fail
 exact yay (by simp[results,results151,go_sem,y0,y1,y2]) rfl (MS.finR HM.out HR.out HE.out.1)):P:=h
theorem xbw{P:Prop}(h:P:=by
 generalize s2'.vs.length=NT at*
 generalize s2'.ins.length=nI at*
 generalize s2'.outs.length=nO at*
 go_upto_region 33 with (go_at_call 130;refine yai HGr.out ?_;rintro e w8 ⟨⟨b1,dd1,b3,dd3,a2,cap2,rfl,q1,q2,q3,ap⟩,k8⟩)
 have HBd:Hid (∀W',Kept 0 0 w8 W'->_):=λW' kk=>HBc.out W' b1 dd1 a2 cap2 b3 dd3 (k8.trans kk) (eO q1 kk) (eO q2 kk) (eO q3 kk) ap
 have HBe:Hid (∀W',Kept 0 0 w8 W'->_):=λW' kk=>(HBT.out.keep (k8.trans kk)).c1
 clear q1 q2 q3 ap HBc HGr clT p0 p1 p2
 have d2:=HBe.out _ (ez 0 0 w8 (eP b1 nI dd1 a2 M1.length cap2 b3 nO dd3))
 have HB6:Hid _:=HBd.out _ (ez 0 0 w8 (eP b1 nI dd1 a2 M1.length cap2 b3 nO dd3))
 go_wp2_with (go_at_call 129;refine yai HB6.out ?_;rintro e w9 ⟨⟨x,rfl⟩,hT⟩)
 go_ret
 exact hT.out):P:=h
theorem xbx{P:Prop}(h:P:=by
 go_region_with (first
  |(go_at_call 24;refine yai (HF.out _ ((eC _).trans k7)) ?_;rintro e W9 ⟨us,g',cap',rfl,hus,hrb,hfin⟩;obtain⟨_,r0,r1,r2,rf0,rf1,rf2⟩:=hrb)
  |(go_at_call 26;refine yai (gj _ _ _ _ _ _) ?_;rintro e W7 ⟨rfl,k7⟩;obtain⟨_,q0,q1,q2,_,_,_⟩:=(HD.out.keep ((eC _).trans k7)).bx))
 all_goals exact HP.out (L2.of HSV.out hus.out hfin)):P:=h
theorem xby{P:Prop}(h:P:=by
 rcases tk with tk|tk<;>exact⟨⟨#[112,117,116,40]⟩++s1++⟨#[44,32]⟩++sv++⟨#[44,32]⟩++sq++⟨#[41]⟩,ni bs j1,fS WkS hm λz X W HS=>WkE⟩):P:=h
theorem xbz{P:Prop}(h:P:=by
 intros
 rename_i HK
 have HC:Hid (∀W1,Kept 0 0 W W1->_):=λW1 k=>MS.call HM.out k (eI 3 ln va vb 0) xaa
 have s0:=HM.out.g.c0
 have s1:=HM.out.g.c1
 have s2:=HM.out.g.c2
 have v2:=HM.out.v.c2
 exact xav):P:=h
theorem xca{P:Prop}(h:P:=by
 go_wp2_with fail
 ·exact xce):P:=h
theorem xcb{P:Prop}(h:P:=by
 have c:∀o,(fe w1 w.heap.size (.slice b1 n1 d1) (.slice a2 n2 d2) (.slice b3 n3 d3)).cell? ⟨w.heap.size+1,o,none⟩=w1.cell? ⟨w.heap.size+1,o,none⟩:=λo=>kp.cell (p:=⟨w.heap.size+1,o,none⟩) bz (by show ¬(w.heap.size<=w.heap.size+1/\w.heap.size+1<w.heap.size+1);omega)
 have fz:∀o,(fe w1 w.heap.size (.slice b1 n1 d1) (.slice a2 n2 d2) (.slice b3 n3 d3)).frozen? ⟨w.heap.size+1,o,none⟩=w1.frozen? ⟨w.heap.size+1,o,none⟩:=λo=>kp.frozen (p:=⟨w.heap.size+1,o,none⟩) bz (by show ¬(w.heap.size<=w.heap.size+1/\w.heap.size+1<w.heap.size+1);omega)
 exact⟨yaj bz kp.size,by rw[c];exact t0,by rw[c];exact t1,by rw[c];exact t2,by rw[fz];exact x0,by rw[fz];exact x1,by rw[fz];exact x2⟩):P:=h
theorem xcc{P:Prop}(h:P:=by
 unfold PfC
 intros
 rename_i HK
 have HC:Hid (∀W1,Kept 0 0 W W1->_):=λW1 k=>MS.call HM.out k (eI 4 ln d i 0) xaa
 exact xae):P:=h
theorem xcd{P:Prop}(h:P:=by
 have c1:=hI.out.c k hk15
 have c2:=hI.out.n.t.c2
 generalize hky:keysL.getD k []=ky at c1
 go_upto_region 12 with fail
 go_quiet (fail)
 have HK4:Hid _:=hI.out.keep (eK 0 0 wr nq)
 clear c1 c2 hI
 generalize wr.drewN nq=W4 at HK4 ⊢
 have y2:=HK4.out.n.t.c0
 have y3:=HK4.out.n.t.fr 0
 have y4:=HK4.out.n.t.c2
 cases hq:(ky==x)
 ·exact xft
 ·exact xfy):P:=h
theorem xce{P:Prop}(h:P:=by
 obtain⟨_,q0,q1,q2,_,_,_⟩:=HS.out.bx
 go_region_with (first|(go_at_call 24;refine yai (HF.out _ _ _ _ _ _ _ HS.out HK.out _ ((eC _).trans k3)) ?_;rintro e W9 ⟨g',cap',rfl,hrb,hfin⟩;obtain⟨_,r0,r1,r2,rf0,rf1,rf2⟩:=hrb)|(go_at_call 26;refine yai (gj _ _ _ _ _ _) ?_;rintro e W3 ⟨rfl,k3⟩;obtain⟨_,s0,s1,s2,_,_,_⟩:=(HS.out.keep ((eC _).trans k3)).bx))
 all_goals
  go_wp2_with fail
  obtain⟨t0,t1,t2⟩:=eY W9 (w.heap.size+1) _ _ _ r0 r1 r2 (.slice a1 n1 c1) (.slice (some ⟨g',0,none⟩) (vs.length+1) cap') (.slice a3 n3 c3)
  exact yay (v:=eR a1 n1 c1 (some ⟨g',0,none⟩) (vs.length+1) cap' a3 n3 c3) (by simp[results,results28,go_sem,t0,t1,t2]) rfl hfin):P:=h
theorem xcf{P:Prop}(h:P:=by
 have hL1:=HM.out.len1 hj hla
 have j0:(0:Int)<=(j:Int):=xaa
 have j1:(j:Int)<(vs.length:Int):=xaa
 clear hla
 exact xad):P:=h
theorem xcg{P:Prop}(h:P:=by
 go_enter func38,ntmps38
 go_wp2_with (first|(go_at_call 69;refine(fD _ _ xaa xaa).mono ?_;rintro e w2 ⟨rfl,rfl⟩;simp only[show gg 2=true from rfl])|(go_at_call 36;refine(eV _ _ xaa xaa).mono ?_;rintro e w2 ⟨rfl,rfl⟩;simp only[show ig 2=2 from rfl]))
 go_ret
 exact⟨rfl,rfl⟩):P:=h
theorem xch{P:Prop}(h:P:=by
 go_enter func38,ntmps38
 go_wp2_with (first|(go_at_call 69;refine(fD _ _ xaa xaa).mono ?_;rintro e w2 ⟨rfl,rfl⟩;simp only[show gg 3=true from rfl])|(go_at_call 36;refine(eV _ _ xaa xaa).mono ?_;rintro e w2 ⟨rfl,rfl⟩;simp only[show ig 3=2 from rfl]))
 go_ret
 exact⟨rfl,rfl⟩):P:=h
theorem xci{P:Prop}(h:P:=by
 go_enter func38,ntmps38
 go_wp2_with (first|(go_at_call 69;refine(fD _ _ xaa xaa).mono ?_;rintro e w2 ⟨rfl,rfl⟩;simp only[show gg 4=true from rfl])|(go_at_call 36;refine(eV _ _ xaa xaa).mono ?_;rintro e w2 ⟨rfl,rfl⟩;simp only[show ig 4=2 from rfl]))
 go_ret
 exact⟨rfl,rfl⟩):P:=h
theorem xcj{P:Prop}(h:P:=by
 go_enter func38,ntmps38
 go_wp2_with (first|(go_at_call 69;refine(fD _ _ xaa xaa).mono ?_;rintro e w2 ⟨rfl,rfl⟩;simp only[show gg 5=true from rfl])|(go_at_call 36;refine(eV _ _ xaa xaa).mono ?_;rintro e w2 ⟨rfl,rfl⟩;simp only[show ig 5=2 from rfl]))
 go_ret
 exact⟨rfl,rfl⟩):P:=h
theorem xck{P:Prop}(h:P:=by
 go_enter func38,ntmps38
 go_wp2_with (first|(go_at_call 69;refine(fD _ _ xaa xaa).mono ?_;rintro e w2 ⟨rfl,rfl⟩;simp only[show gg 7=true from rfl])|(go_at_call 36;refine(eV _ _ xaa xaa).mono ?_;rintro e w2 ⟨rfl,rfl⟩;simp only[show ig 7=2 from rfl]))
 go_ret
 exact⟨rfl,rfl⟩):P:=h
theorem xcl{P:Prop}(h:P:=by
 obtain⟨⟨v0,v1,v2,v3,v4,v5⟩,j0,j1,hg2,wB,hB,hn,HM,HO⟩:=H.op b1 b3 m1 e1 m3 e3
 clear H
 unfold PtC
 go_enter func150,ntmps150
 go_wp2_with fail
 rw[hB.out]
 clear v0 v1 v2 v3 v4 v5 hB
 refine fg (EM HM xaa ?_)
 exact xam):P:=h
theorem xcm{P:Prop}(h:P:=by
 obtain⟨⟨v0,v1,v2,v3,v4,v5⟩,j0,j1,hg2,wB,hB,hn,HM,HO⟩:=H.op b1 b3 m1 e1 m3 e3
 clear H
 unfold MvC
 go_enter func151,ntmps151
 go_wp2_with fail
 rw[hB.out]
 clear v0 v1 v2 v3 v4 v5 hB
 refine fg (EL HM xaa ?_)
 clear HM
 unfold MfK
 intros
 rename_i wc hR
 obtain⟨vs1,g',cap',HV1,hL1,HM⟩:=hR
 go_wp2_with fail
 refine fg (EK HM xaa (show(vs1.length:Int)-1=((vs.length:Nat):Int) by have:=HV1.out.2;omega) ?_)
 exact xbt):P:=h
theorem xcn{P:Prop}(h:P:=by
 have HR2:Hid (r=.error (c,p)):=by show _=_;rw[HR.out,HEk.out _ rfl];rfl
 go_wp2_with (go_at_call 75;refine yai HCk.out ?_;rintro e w4 ⟨rfl,hT⟩)
 go_ret
 rw[HR2.out]
 exact TrO.after HMk1.out ⟨rfl,hT⟩):P:=h
theorem xco{P:Prop}(h:P:=by
 go_region_with (first
  |(go_at_call 26;refine yai (gj _ _ _ _ _ _) ?_;rintro e w3 ⟨rfl,k3⟩;have b1':=(HB2.out.keep ((eC w2).trans k3)).c1)
  |(go_at_call 78;refine yai (HPt.out _ ((eC w2).trans k3)) ?_;rintro e w4 ⟨⟨x,rfl⟩,hT⟩))
 all_goals (go_wp2_with fail;go_ret;exact hT.out)):P:=h
theorem xcp{P:Prop}(h:P:=by
 clear ho hop hB hK
 go_wp2
 go_roundw
 case rel=>exact⟨k+1,by omega,by go_num,by rw[HN.out];exact R1.out _,R2.out _⟩
 case measure=>simp[intOf];omega):P:=h
theorem xcq{P:Prop}(h:P:=by
 obtain⟨⟨v0,v1,v2,v3,v4,v5⟩,j0,j1,hg2,wB,hB,hn,HM,HO⟩:=H.op b1 b3 m1 e1 m3 e3
 clear H
 unfold PtC
 go_enter func150,ntmps150
 go_wp2_with fail
 exact yay (by simp[results,results150,go_sem]) rfl (rP HO.out (((ez 0 0 w _).trans (ez 0 0 _ _)).trans (ez 0 0 _ _)) _ _)):P:=h
theorem xcr{P:Prop}(h:P:=by
 have R2:Hid (∀o,Kept 0 0 W0 (World.alloc ((wr.setCell ⟨U,ma,none⟩ (.bool true)).setCell ⟨U,mb,none⟩ (.bool true)) o)):=λo=>Kept.trans (Kept.new (Kept.new hK.out (eL (lo:=U) (hi:=U+1) wr ⟨U,ma,none⟩ (.bool true) yac) hU) (eL (lo:=U) (hi:=U+1) (wr.setCell ⟨U,ma,none⟩ (.bool true)) ⟨U,mb,none⟩ (.bool true) yac) hU) (ez 0 0 _ _)
 exact xcp):P:=h
theorem xcs{P:Prop}(h:P:=by
 go_wp2_with (first|(go_at_call 74;refine yai (HSt.out _ _ HK2.out) ?_;rintro e w3 ⟨rfl,hbad⟩)|fail)
 exact xel):P:=h
theorem xct{P:Prop}(h:P:=by
 have v4:=HM.out.v.c4
 exact xad):P:=h
theorem xcu{P:Prop}(h:P:=by
 have hl:=oP HNo.out
 generalize Lib.bytesWorld wr 5 ⟨tx.toArray⟩=W2 at hcv' HY HKc
 generalize wr.heap.size=b3 at hcv' HY
 generalize grownCap wr tx.length 0 5=cc at hcv'
 go_upto_region 12 with (go_at_call 45;refine yai (nJ W2 _ _ _ _ HY.out xaa) ?_;rintro e w4 ⟨fl,c,rfl,hRN,hD⟩)
 obtain⟨_,rfl⟩:=nT HNo.out hRN
 have HKn:Hid _:=(hK.out.trans HKc.out).trans (hD.kept 0 0)
 clear hcv' HY HKc hRN hD q0 q2 HNo
 exact xej):P:=h
theorem xcv{P:Prop}(h:P:=by
 have hlt:w.heap.size<(w.alloc (eP none 0 0 none 0 0 none 0 0)).heap.size:=by simp
 refine⟨(kk.cell (p:=⟨w.heap.size,0,none⟩) hlt xaa).trans ?_,(kk.cell (p:=⟨w.heap.size,1,none⟩) hlt xaa).trans ?_,(kk.cell (p:=⟨w.heap.size,2,none⟩) hlt xaa).trans ?_,λo=>(kk.frozen (p:=⟨w.heap.size,o,none⟩) hlt xaa).trans ?_⟩
 ·rw[yau];rfl
 ·rw[yau];rfl
 ·rw[yau];rfl
 ·simp[World.frozen?,World.alloc,-World.alloc_eq]):P:=h
theorem xcw{P:Prop}(h:P:=by
 have hz:=hfz (j*6+0)
 rw[Nat.add_zero] at HD4 HFin hz
 exact xba):P:=h
theorem xcx{P:Prop}(h:P:=by
 have HR3:Hid (r=.error (c,p)):=by show _=_;rw[HR2.out];unfold km;rw[<-HQ.out]
 go_wp2_with (go_at_call 108;refine yai HFt.out ?_;rintro e w4 ⟨rfl,hT⟩)
 go_ret
 rw[HR3.out]
 exact⟨rfl,hT.1,hT.2.1,((Mv.of HK.out).trans HMk.out).bad hT.2.2⟩):P:=h
theorem xcy{P:Prop}(h:P:=by
 go_roundw
 case rel=>exact⟨trivial,k+1,by omega,by go_num,R⟩
 case measure=>simp[intOf];omega):P:=h
theorem xcz{P:Prop}(h:P:=by
 go_wp2_with fail
 go_roundw
 case rel=>exact⟨k+1,F,fs,by omega,by omega,by go_num,rfl,by rw[R.out],by omega,RC,RO,hB,hR,hK⟩
 case measure=>simp[intOf];omega):P:=h
theorem xda{P:Prop}(h:P:=by
 have kp:=fc W' (w.heap.size+1) (.slice b1 n1 e1) (.slice a2 vs.length cap) (.slice b3 n3 e3)
 have hb:=h.hb
 have key:∀{e size n:Nat} {v:Value} {xs:List Value},W.ownsRow base e size v n xs->(fe W' (w.heap.size+1) (.slice b1 n1 e1) (.slice a2 vs.length cap) (.slice b3 n3 e3)).ownsRow w.heap.size e size v n xs:=λho=>
  iq (fK (eO ho k) kp (λg hg=>by have:=(eG ho hg).1;omega)) xaa
 exact⟨⟨key h.i,key h.g.own,key h.o⟩,Kept.new (h.k.trans k) kp xaa⟩):P:=h
theorem xdb{P:Prop}(h:P:=by
 go_enter func115,ntmps115
 go_wp2_with (first|(go_at_call 19;refine yai HN.out ?_;rintro e w1 ⟨rfl,hr,k1,z1⟩)|(go_at_call 47;refine yai (HD.out _) ?_;rintro e w2 ⟨rfl,rfl⟩))
 go_ret
 exact⟨rfl,hr,k1,z1⟩):P:=h
theorem xdc{P:Prop}(h:P:=by
 refine⟨s0,ni bs j0,fS xaa xab λz X W HS=>?_⟩
 repeat (rw[yaq] at z;refine sz2 z ?_;clear z;intro _ z)
 exact xaq):P:=h
theorem xdd{P:Prop}(h:P:=by
 clear HM
 unfold PfK
 intros
 rename_i wc hR
 obtain⟨vs2,g',cap',HV2,hL2,HM⟩:=hR
 go_wp2_with fail
 refine fg (jk HM xaa (show(vs2.length:Int)-1=(((vs.length:Nat):Int)+1) by have:=HV1.out.2;have:=HV2.out.2;omega) ?_)
 unfold PfK
 intros
 rename_i W3 hR
 obtain⟨y0,y1,y2,HR⟩:=hR
 go_wp2_with fail
 exact yay (by simp[results,results150,go_sem,y0,y1,y2]) rfl (MS.finPR HM.out HR.out (by rw[HV2.out.1,HV1.out.1]<;>simp))):P:=h
theorem xde{P:Prop}(h:P:=by
 refine⟨⟨z1,z2,z3,z4,hW3,⟨hM.bad ⟨hM3.chg.os,hM3.chg.tape,hM3.chg.output,hM3.chg.size,λi hi hn=>hM3.chg.block i hi (λc=>hn (.inl c))⟩,λb hb=>?_⟩,λb hb c=>?_⟩,fj hrow hM3.chg hO⟩
 ·exact xgk
 ·exact xjh):P:=h
theorem xdf{P:Prop}(h:P:=by
 go_wp2_with fail
 go_roundw
 case rel=>exact⟨k+1,by omega,by go_num,R⟩
 case measure=>simp[intOf];omega):P:=h
theorem xdg{P:Prop}(h:P:=by
 have HR2:Hid (r=.error (c,p)):=by show _=_;rw[HR.out,HE.out _ rfl];rfl
 go_wp2_with (go_at_call 75;refine yai HC1.out ?_;rintro e w3 ⟨rfl,hT⟩)
 go_ret
 rw[HR2.out]
 exact TrO.back HK.out ⟨rfl,hT⟩):P:=h
theorem xdh{P:Prop}(h:P:=by
 clear HM
 unfold MfK
 intros
 rename_i wc hR
 obtain⟨vs1,g',cap',HV1,hL1,HM⟩:=hR
 go_wp2_with fail
 refine fg (zo HM xaa (show(vs1.length:Int)-1=((vs.length:Nat):Int) by have:=HV1.out.2;omega) ?_)
 exact xbt):P:=h
theorem xdi{P:Prop}(h:P:=by
 go_roundw
 case rel=>exact⟨j+1,by omega,by have:=HI1.out;congr 1<;>omega,R1,R2⟩
 case measure=>have:=HI1.out;simp[intOf]<;>omega):P:=h
theorem xdj{P:Prop}(h:P:=by
 intro i hi
 rcases List.mem_append.1 hi with hi|hi
 ·exact yaj (hXs.out i hi) gw2.n
 ·simp at hi;subst hi;exact ha2):P:=h
theorem xdk{P:Prop}(h:P:=by
 rw[eJ] at h
 cases h1:eJ f st loc a with
 |none=>rw[h1] at h;cases h
 |some r1=>
  rw[h1] at h
  rcases r1 with⟨c,p⟩|⟨s1,x⟩
  ·cases h;exact⟨_,rfl,rfl⟩
  ·cases h;exact⟨_,rfl,rfl⟩):P:=h
theorem xdl{P:Prop}(h:P:=by
 have hv:=(D 0).1
 have hq':=(V 0).1
 rcases qk s0 with⟨t0,t2⟩|⟨t0,t2⟩
 ·exact xby
 ·exact xby):P:=h
theorem xdm{P:Prop}(h:P:=by
 go_wp2_with (first|(go_at_call 74;refine yai (HSt.out _ _ HK3.out) ?_;rintro e w4 ⟨rfl,hbad⟩)|fail)
 go_ret
 rw[R.out]
 exact⟨rfl,hbad.c5,hbad.c6,(Mv.of HK3.out).bad hbad.chg⟩):P:=h
theorem xdn{P:Prop}(h:P:=by
 rw[yah,yar yad,Nat.sub_self];rfl):P:=h
theorem xdo{P:Prop}(h:P:=by
 go_wp2_with fail
 refine(iu _ _ _ _ _ _ _ hR).mono ?_
 rintro e w2 ⟨rfl,h2,hb3,hz2⟩
 clear hz2
 go_wp2
 go_roundw
 case rel=>first|exact⟨j+1,_,by omega,by go_num,rfl,wrap_u64_nonneg _,jE _,h2,hB.trans hb3⟩|((repeat apply Exists.intro);exact⟨⟨j+1,_,by omega,by go_num,rfl,wrap_u64_nonneg _,jE _,h2,hB.trans hb3⟩,rfl⟩)
 case measure=>simp[intOf];omega):P:=h
theorem xdp{P:Prop}(h:P:=by
 cases s
 ·exact xgb
 ·exact xgc):P:=h
theorem xdq{P:Prop}(h:P:=by
 have hv:=(D 0).1
 have hq':=(V 0).1
 rcases qk s0 with⟨t0,t2⟩|⟨t0,t2⟩
 ·exact xby
 ·exact xhb):P:=h
theorem xdr{P:Prop}(h:P:=by
 clear hky HK4
 exact xdf):P:=h
theorem xds{P:Prop}(h:P:=by
 intro g cap w' h1 h2 h3 _
 have e:js.length+1=(js++[y]).length:=by rw[yak];rfl
 rw[e] at h1 ⊢
 refine h g cap _ w' rfl ?_ (gD h2) h3
 rw[List.map_append]
 exact h1):P:=h
theorem xdt{P:Prop}(h:P:=by
 go_round
 case rel=>exact⟨k+1,by omega,by go_num,R⟩
 case measure=>simp[intOf];omega):P:=h
theorem xdu{P:Prop}(h:P:=by
 clear a0 a1 a2
 exact xbk):P:=h
theorem xdv{P:Prop}(h:P:=by
 clear hb
 go_wp2
 exact xcy):P:=h
theorem xdw{P:Prop}(h:P:=by
 clear a0 a1
 exact xcg):P:=h
theorem xdx{P:Prop}(h:P:=by
 clear a0 a1
 exact xch):P:=h
theorem xdy{P:Prop}(h:P:=by
 clear a0 a1
 exact xci):P:=h
theorem xdz{P:Prop}(h:P:=by
 clear a0 a1
 exact xcj):P:=h
theorem xea{P:Prop}(h:P:=by
 clear a0 a1
 exact xck):P:=h
theorem xeb{P:Prop}(h:P:=by
 clear a0
 go_enter func38,ntmps38
 go_wp2_with (first|(go_at_call 69;refine(fD _ _ xaa xaa).mono ?_;rintro e w2 ⟨rfl,rfl⟩;simp only[show gg 10=false from rfl])|(go_at_call 36;refine(eV _ _ xaa xaa).mono ?_;rintro e w2 ⟨rfl,rfl⟩;simp only[show ig 10=1 from rfl]))
 go_ret
 exact⟨rfl,rfl⟩):P:=h
theorem xec{P:Prop}(h:P:=by
 clear a0
 go_enter func38,ntmps38
 go_wp2_with (first|(go_at_call 69;refine(fD _ _ xaa xaa).mono ?_;rintro e w2 ⟨rfl,rfl⟩;simp only[show gg 13=true from rfl])|(go_at_call 36;refine(eV _ _ xaa xaa).mono ?_;rintro e w2 ⟨rfl,rfl⟩;simp only[show ig 13=1 from rfl]))
 go_ret
 exact⟨rfl,rfl⟩):P:=h
theorem xed{P:Prop}(h:P:=by
 clear a0
 go_enter func38,ntmps38
 go_wp2_with (first|(go_at_call 69;refine(fD _ _ xaa xaa).mono ?_;rintro e w2 ⟨rfl,rfl⟩;simp only[show gg 6=true from rfl])|(go_at_call 36;refine(eV _ _ xaa xaa).mono ?_;rintro e w2 ⟨rfl,rfl⟩;simp only[show ig 6=1 from rfl]))
 go_ret
 exact⟨rfl,rfl⟩):P:=h
theorem xee{P:Prop}(h:P:=by
 rcases List.mem_append.1 hu with c|c
 ·exact f.dg.k u c
 ·simp only[List.mem_singleton] at c;subst c;exact hv):P:=h
theorem xef{P:Prop}(h:P:=by
 intro j u hu
 cases j with
 |zero=>cases hu;obtain⟨b,o,m⟩:=ad;simpa[Addr.add] using hnews
 |succ j=>cases hu):P:=h
theorem xeg{P:Prop}(h:P:=by
 go_region_with (first
  |(go_at_call 26;refine yai (gj _ _ _ _ _ _) ?_;rintro e w3 ⟨rfl,k3⟩;have b1':=(HB2.out.keep ((eC w2).trans k3)).c1)
  |(go_at_call 78;refine yai (HQ.out _ (HK2.out.trans ((eC w2).trans k3))) ?_;rintro e w4 ⟨⟨x,rfl⟩,hT⟩))
 all_goals (go_wp2_with fail;go_ret;rw[R.out];exact hT.out)):P:=h
theorem xeh{P:Prop}(h:P:=by
 have h1:=E1.1
 obtain⟨s2,j2,E2⟩:=ih (1) xaa (j1)
 have h2:=E2.1
 rcases qk s0 with⟨t0,t2⟩|⟨t0,t2⟩
 ·exact xjs
 ·exact xgl):P:=h
theorem xei{P:Prop}(h:P:=by
 go_wp2_with (go_at_call 110;refine yai HV1.out ?_;rintro e w2 ⟨rfl,hbad⟩)
 exact xfh):P:=h
theorem xej{P:Prop}(h:P:=by
 go_wp2_with fail
 go_roundw
 case rel=>exact⟨i+1,by omega,by go_num,HKn⟩
 case measure=>simp[intOf];omega):P:=h
theorem xek{P:Prop}(h:P:=by
 intro v' w9 hown9 hg9 hnil
 obtain⟨G,cap,rfl,b1,b2⟩:=s7 hown9 hnil
 have R:Hid _:=j5 (base:=w.heap.size) hg9 (λk hk=>by have:w.heap.size=k:=(by simpa[Value.ownBlock] using hk);omega) HKA.out yad
 have R2:Hid _:=hown9
 clear hown9 hg9 hnil
 go_wp2
 go_ret
 exact⟨G,cap,rfl,b1,b2,R2.out,R.out⟩):P:=h
theorem xel{P:Prop}(h:P:=by
 go_ret
 rw[R.out]
 exact⟨rfl,hbad.c5,hbad.c6,(Mv.of HK2.out).bad hbad.chg⟩):P:=h
theorem xem{P:Prop}(h:P:=by
 rcases ut hRN with⟨h1,_⟩|⟨h1,h2⟩
 ·exact xiv
 ·exact xga):P:=h
theorem xen{P:Prop}(h:P:=by
 obtain⟨q0,q1,_,_,q4,q5⟩:=HCl.out W' kk
 have lb:bx<W'.heap.size:=(HBz.out.keep kk).lt
 have lf:gf<W'.heap.size:=yaj hgl kk.size
 exact⟨(cc.cell (p:=⟨bx,1,none⟩) lb hbM).trans q1,(cc.cell (p:=⟨gf,of,none⟩) lf hgf).trans q4,(cc.cell (p:=⟨gf,of+1,none⟩) lf hgf).trans q5⟩):P:=h
theorem xeo{P:Prop}(h:P:=by
 generalize (⟨(f4 x).toArray⟩:ByteArray)=sa at HD hz ⊢
 exact xdb):P:=h
theorem xep{P:Prop}(h:P:=by
 rcases f.2 with⟨e,c⟩|⟨g,cap,cur,e,_⟩
 ·exact⟨none,0,by rw[e,c]⟩
 ·exact⟨_,cap,e⟩):P:=h
theorem xeq{P:Prop}(h:P:=by
 clear hA
 go_enter func15,ntmps15
 go_wp2_with fail
 generalize hwq:(w.alloc (eP a1 n1 cc1 (some ⟨g2,o2,none⟩) n2 c2 a3 n3 c3)).alloc (fX 0 len A B C K)=wq at HK2 q0 q1 q2 d0 d1 d2 d3 d4 d5 ⊢
 clear hwq
 go_quiet (fail)
 go_wp2
 go_ret
 exact⟨rfl,HK2.out.trans (eK 0 0 _ _)⟩):P:=h
theorem xer{P:Prop}(h:P:=by
 go_roundw
 case rel=>exact⟨trivial,j+1,by omega,by go_num,R⟩
 case measure=>simp[intOf];omega):P:=h
theorem xes{P:Prop}(h:P:=by
 have a:r.testBit i=false:=Nat.testBit_lt_two_pow (yaj hb (ku xaa))
 have b:(2 ^ 63+r).testBit i=false:=Nat.testBit_lt_two_pow (yaj (show 2 ^ 63+r<2 ^ 64 by omega) (ku xaa))
 rw[a,b,show decide (63=i)=false from yax xaa];rfl):P:=h
theorem xet{P:Prop}(h:P:=by
 rw[eN,hc] at h
 unfold eQ at h
 rw[if_neg xaa,if_neg xaa,if_neg xaa,if_neg xaa,if_pos xaa] at h
 simpa using h):P:=h
theorem xeu{P:Prop}(h:P:=by
 go_wp2
 exact xdt):P:=h
theorem xev{P:Prop}(h:P:=by
 go_wp2_with fail
 go_roundw
 case rel=>exact⟨trivial,qi+1,by omega,by go_num,by rw[R.out],by rw[R.out]⟩
 case measure=>simp[intOf];omega):P:=h
theorem xew{P:Prop}(h:P:=by
 refine⟨h2.bad ⟨hC.os,hC.tape,hC.output,hC.size,λi hi hn=>hC.block i hi (λc=>hn (.inr c))⟩,λb hb=>?_⟩
 rcases hb with c|c
 ·exact h2.new b (.inl c)
 ·exact xhq):P:=h
theorem xex{P:Prop}(h:P:=by
 go_wp2_with (go_at_call 75;refine yai HC1.out ?_;rintro e w2 ⟨rfl,hT⟩)
 go_ret
 rw[HR.out]
 exact TrO.back HK.out ⟨rfl,hT⟩):P:=h
theorem xey{P:Prop}(h:P:=by
 go_enter func39,ntmps39
 go_wp2
 go_ret
 exact⟨rfl,rfl⟩):P:=h
theorem xez{P:Prop}(h:P:=by
 go_roundw
 case rel=>exact⟨k+1,by omega,by go_num,R3⟩
 case measure=>simp[intOf];omega):P:=h
theorem xfa{P:Prop}(h:P:=by
 rw[ob] at hv
 subst hv
 rcases hat with c|c
 ·exact ha _ hk c
 ·have:=(eG ho hk).2;omega):P:=h
theorem xfb{P:Prop}(h:P:=by
 go_wp2_with (first|(go_at_call 36;refine yai (HL1.out _) ?_;rintro e w6 ⟨rfl,rfl⟩)|fail)
 clear y1 z0 z1 z2 z3 z4 z5
 go_roundw
 case rel=>exact⟨i-1,j+1,by go_num,by have:=HIJ.out;omega,by have:=HIJ.out;omega,R2⟩
 case measure=>simp[intOf];omega):P:=h
theorem xfc{P:Prop}(h:P:=by
 subst hv
 have nB:(Value.slice a2 (vs0++M.1).length cap).ownBlock≠some (w.heap.size+1):=by rw[h.g.row];exact h.n1
 exact⟨a2,cap,R',rfl,eH (eH (eH (eO h.g.own k) nB) nB) nB,h.g.row,(h.s.keepQ k).new (fc W' (w.heap.size+1) _ _ _) xaa⟩):P:=h
theorem xfd{P:Prop}(h:P:=by
 clear f hl hn ka e
 generalize eX vs=cv at HX t2 hc
 go_enter func114,ntmps114
 go_wp2_with fail
 refine yai HX.out ?_
 rintro e w2 ⟨rfl,k2⟩
 have R:Hid _:=Kept.trans HK.out k2
 clear k2 HX
 go_wp2
 go_ret
 exact⟨rfl,R.out⟩):P:=h
theorem xfe{P:Prop}(h:P:=by
 rcases hs.row with c|⟨r,c,hr⟩
 ·exact .inl c.symm
 ·cases c;exact .inr hr):P:=h
theorem xff{P:Prop}(h:P:=by
 have:(cur.toList.take (js.length*1))[k]? =(js.map λj:Nat=>Value.int .i64 (j:Int))[k]?:=by rw[b6]
 rw[List.getElem?_take_of_lt xaa] at this
 rw[this,List.getElem?_map,yah,yal hk]
 rfl):P:=h
theorem xfg{P:Prop}(h:P:=by
 go_upto_region 23 with fail
 go_region
 all_goals (
  go_wp2_with fail
  refine yay (v:=.tuple #[rh,.int .i64 c,.int .i64 (p:Int)]) (by simp[results,results21,go_sem,z0,z1,y2]) rfl ?_
  rw[HRe.out]
  exact⟨rfl,R.out⟩)):P:=h
theorem xfh{P:Prop}(h:P:=by
 go_ret
 rw[HR.out]
 exact⟨rfl,hbad.c5,hbad.c6,(Mv.of HK.out).bad hbad.chg⟩):P:=h
theorem xfi{P:Prop}(h:P:=by
 go_enter func88,ntmps88
 go_wp2
 go_quiet ((first|(go_at_call 59;exact Calls.quiet_of_same (gO _ _))|(go_at_call 61;exact Calls.quiet_of_same (gI _ _ _))))
 go_wp2
 go_ret
 exact⟨rfl,(ez _ _ _ _).trans (eK _ _ _ _)⟩):P:=h
theorem xfj{P:Prop}(h:P:=by
 rcases hb with c|c|c|c|c
 ·exact .inl (.inl c)
 ·exact .inr (yan hW0 (eG r1 c).1)
 ·exact .inr (yan hW0 (eG r2 c).1)
 ·exact .inr (yan hW0 (eG r3 c).1)
 ·exact .inl (.inr (.inr (.inr (.inr c))))):P:=h
theorem xfk{P:Prop}(h:P:=by
 unfold MfK
 intros
 rename_i W3 hR
 obtain⟨y0,y1,y2,HR⟩:=hR
 go_wp2_with fail
 exact yay (by simp[results,results151,go_sem,y0,y1,y2]) rfl (MS.finR HM.out HR.out (by rw[HV3.out.1,HV2.out.1,HV1.out.1]<;>simp))):P:=h
theorem xfl{P:Prop}(h:P:=by
 go_wp2_with ((go_at_call 36;refine yai (HL1.out _) ?_;rintro e w9 ⟨rfl,rfl⟩))
 exact xdi):P:=h
theorem xfm{P:Prop}(h:P:=by
 have:(cur.toList.take (n*1))[k]? =(xs.map (Value.int .i64))[k]?:=by rw[b6]
 rw[List.getElem?_take_of_lt xaa] at this
 rw[this,List.getElem?_map,yah,yal xaa]
 rfl):P:=h
theorem xfn{P:Prop}(h:P:=by
 have h1:∀g,(Value.slice _ _ _).ownBlock=some g->R≠some g:=λg hg=>by rw[<-h.g.row];exact ha g hg
 refine⟨h1,λc=>?_,λg hg=>?_⟩
 ·have:=(eG ho c).1;have:=h.hb;omega
 ·rw[row];exact far g (eG ho hg).2 (h1 g hg)):P:=h
theorem xfo{P:Prop}(h:P:=by
 have h1:=hArg.out
 rw[yao (by rw[HEs.out];decide),HAr.out] at h1
 exact Option.some.inj h1):P:=h
theorem xfp{P:Prop}(h:P:=by
 go_wp2_with fail
 exact xez):P:=h
theorem xfq{P:Prop}(h:P:=by
 go_enter func109,ntmps109
 go_wp2
 go_ret
 exact⟨rfl,rfl⟩):P:=h
theorem xfr{P:Prop}(h:P:=by
 clear h hI
 go_enter func7,ntmps7
 go_wp2_with fail
 refine yai HIN.out ?_
 rintro e w1 ⟨rfl,k1⟩
 obtain⟨_,q0,q1,q2⟩:=hB.keep k1
 clear hB
 go_wp2
 go_ret
 exact⟨rfl,hK.out.trans k1⟩):P:=h
theorem xfs{P:Prop}(h:P:=by
 go_enter func38,ntmps38
 go_wp2
 go_ret
 exact⟨rfl,rfl⟩):P:=h
theorem xft{P:Prop}(h:P:=by
 have R:Hid _:=HK4.out.miss hk15 (by rw[hky];intro c;rw[c] at hq;simp at hq)
 exact xdr):P:=h
theorem xfu{P:Prop}(h:P:=by
 rw[List.drop_succ_cons,List.drop_succ_cons,List.drop_zero,show ts++[c,n,q]=(ts++c::[n])++[q] by simp,List.take_append_of_le_length yaf,yao yaf]):P:=h
theorem xfv{P:Prop}(h:P:=by
 obtain⟨_,rfl⟩:=nT hno hRN
 clear hcv' HY HKc hRN hD q0 q1 q2 HNo hno q1'
 exact xej):P:=h
theorem xfw{P:Prop}(h:P:=by
 have:=R2.out
 rw[<-hz.out,<-HLL.out] at this
 rw[List.range_succ,List.map_append]
 exact this):P:=h
theorem xfx{P:Prop}(h:P:=by
 go_roundw
 case rel=>
  exact xhd
 case measure=>simp[intOf];omega):P:=h
theorem xfy{P:Prop}(h:P:=by
 have R:Hid _:=HK4.out.hit hk15 (by rw[hky];simpa using hq)
 exact xdr):P:=h
theorem xfz{P:Prop}(h:P:=by
 rw[yat hl,List.mem_append]
 right
 rw[yah,yal hl] at h
 simp only[Option.getD_some] at h
 rw[h];simp):P:=h
theorem xga{P:Prop}(h:P:=by
 refine⟨?_,h2⟩
 rcases h1 with⟨a1,a2⟩|⟨a1,a2,a3⟩<;>rcases hbd with⟨b1,b2⟩|⟨b1,b2,b3⟩
 ·rw[a2,b2]
 ·exact absurd b1 a1
 ·exact absurd a1 b1
 ·rw[a3,b3]):P:=h
theorem xgb{P:Prop}(h:P:=by
 have hs1:(b:Int)<9223372036854775808:=hs
 have hs2:decide (9223372036854775808<=(b:Int))=false:=yax xaa
 clear hs hs1
 go_wp2
 go_ret
 exact⟨rfl,rfl⟩):P:=h
theorem xgc{P:Prop}(h:P:=by
 have hs1:9223372036854775808<=(b:Int):=hs
 have hs2:decide (9223372036854775808<=(b:Int))=true:=decide_eq_true xaa
 clear hs hs1
 go_wp2
 go_ret
 exact⟨rfl,rfl⟩):P:=h
theorem xgd{P:Prop}(h:P:=by
 clear hk
 go_wp2
 go_ret
 exact⟨_,rfl,kO _ _ _ _,h1.drw _,hb1.trans (eK _ _ _ _)⟩):P:=h
theorem xge{P:Prop}(h:P:=by
 refine⟨hc,?_⟩
 exact xet):P:=h
theorem xgf{P:Prop}(h:P:=by
 clear hx'
 go_wp2_with fail
 go_quiet (fail)
 go_wp2
 go_ret
 exact⟨by rw[R1.out,R.out];rfl,(HK2.out.trans (Drawn.kept HD.out 0 0)).trans (eK 0 0 _ _)⟩):P:=h
theorem xgg{P:Prop}(h:P:=by
 rintro (c|c|c|c|c)
 ·have:=h.lt;omega
 ·have:=(eG h.r1 c).2;omega
 ·have:=(eG h.r2 c).2;omega
 ·have:=(eG h.r3 c).2;omega
 ·have:=(eG h.r4 c).2;omega):P:=h
theorem xgh{P:Prop}(h:P:=by
 rw[show(0x7ff0000000000000:Nat)=9218868437227405312 from rfl,e]
 refine⟨?_,BX xaa⟩
 rw[show f64.read _=_ from oV xaa xaa];rfl):P:=h
theorem xgi{P:Prop}(h:P:=by
 rw[e]
 go_enter func103,ntmps103
 go_wp2
 go_ret
 exact⟨rfl,rfl⟩):P:=h
theorem xgj{P:Prop}(h:P:=by
 go_enter func88,ntmps88
 go_wp2
 go_ret
 exact⟨rfl,ez _ _ _ _⟩):P:=h
theorem xgk{P:Prop}(h:P:=by
 rcases hb with c|c
 ·exact xib
 ·exact hM.new b (.inr c)):P:=h
theorem xgl{P:Prop}(h:P:=by
 rcases tk with tk|tk<;>exact⟨⟨#[106,118,112,40]⟩++s1++⟨#[44,32]⟩++s0++⟨#[44,32]⟩++s2++⟨#[41]⟩,j2,fS WkS hm λz X W HS=>WkE⟩):P:=h
theorem xgm{P:Prop}(h:P:=by
 by_cases c:1<=cnt v.op
 ·exact xit
 ·exact⟨0,0,λc'=>absurd c' c⟩):P:=h
theorem xgn{P:Prop}(h:P:=by
 go_wp2
 exact xdi):P:=h
theorem xgo{P:Prop}(h:P:=by
 go_enter func120,ntmps120
 go_wp2
 go_ret
 exact⟨rfl,rfl⟩):P:=h
theorem xgp{P:Prop}(h:P:=by
 go_wp2_with fail
 go_quiet ((go_at_call 61;exact Calls.quiet_of_same (hI.out _)))
 go_wp2
 go_ret
 exact⟨rfl,HK3.out.trans (eK 0 0 _ _)⟩):P:=h
theorem xgq{P:Prop}(h:P:=by
 go_roundw
 case rel=>
  exact xiz
 case measure=>simp[intOf];omega):P:=h
theorem xgr{P:Prop}(h:P:=by
 go_wp2_with (go_at_call 75;refine yai HC3.out ?_;rintro e w3 ⟨rfl,hT⟩)
 go_ret
 rw[HR.out]
 exact TrO.after HM2.out ⟨rfl,hT⟩):P:=h
theorem xgs{P:Prop}(h:P:=by
 go_wp2_with (go_at_call 75;refine yai HC1.out ?_;rintro e w3 ⟨rfl,hT⟩)
 go_ret
 rw[HR.out]
 exact TrO.back HK2.out ⟨rfl,hT⟩):P:=h
theorem xgt{P:Prop}(h:P:=by
 rw[yah,List.getElem?_eq_none c] at h;cases h):P:=h
theorem xgu{P:Prop}(h:P:=by
 rcases hb with c|c|c|c|c
 ·subst c;exact h1.lt
 ·exact(eG h1.r1 c).2
 ·exact(eG h1.r2 c).2
 ·exact(eG h1.r3 c).2
 ·exact(eG h1.r4 c).2):P:=h
theorem xgv{P:Prop}(h:P:=by
 rw[List.drop_succ_cons,List.drop_succ_cons,List.drop_zero,List.take_append_of_le_length xaa,yao xaa]):P:=h
theorem xgw{P:Prop}(h:P:=by
 go_enter func59,ntmps59
 go_wp2
 go_ret
 exact⟨rfl,rfl⟩):P:=h
theorem xgx{P:Prop}(h:P:=by
 go_enter func61,ntmps61
 go_wp2
 go_ret
 exact⟨rfl,rfl⟩):P:=h
theorem xgy{P:Prop}(h:P:=by
 rw[ham] at HAM
 go_wp2
 go_roundw
 case rel=>exact⟨q+1,by omega,by rw[HAM.out];rfl,by go_num,R1,R2⟩
 case measure=>simp[intOf];omega):P:=h
theorem xgz{P:Prop}(h:P:=by
 have e:b=g:=by simpa[Value.ownBlock] using h.symm
 subst e
 rcases hg with c|c
 ·exact(hB _ c).2
 ·have:=f.rs.sz;have:=f.bx.sz;omega):P:=h
theorem xha{P:Prop}(h:P:=by
 clear t h46 hM
 go_wp2_with fail
 refine yai HD.out ?_
 rintro e w' ⟨rfl,rfl⟩
 go_wp2
 go_ret2
 exact⟨0,2,rfl,R.out,HW⟩):P:=h
theorem xhb{P:Prop}(h:P:=by
 rcases tk with tk|tk<;>exact⟨⟨#[103,114,97,100,40]⟩++s1++⟨#[44,32]⟩++s0++⟨#[41]⟩,j1,fS WkS hm λz X W HS=>WkE⟩):P:=h
theorem xhc{P:Prop}(h:P:=by
 have:=hG'.2.2
 rw[hr] at this
 exact yan this xaa):P:=h
theorem xhd{P:Prop}(h:P:=by
 obtain⟨S',p',x1,x2,x3,x4⟩:=HG0.out v g' cap' _ hsv9 hfin hlt HC.out
 exact⟨k2+1,S',p',by omega,by go_num,x1,x2,x3,x4⟩):P:=h
theorem xhe{P:Prop}(h:P:=by
 clear hcv' HY HKc
 go_wp2_with fail
 go_roundw
 case rel=>exact⟨i+1,by omega,by go_num,hK⟩
 case measure=>simp[intOf];omega):P:=h
theorem xhf{P:Prop}(h:P:=by
 obtain⟨g,c,e,_,hg,_,hA⟩:=kr h.g.own hn rfl
 injection e with e1 e2 e3
 subst e1
 exact⟨g,rfl,h.g.row.symm,hg,hA.at_⟩):P:=h
theorem xhg{P:Prop}(h:P:=by
 clear HA HBd
 go_wp2_with fail
 go_roundw
 case rel=>exact⟨j+1,by omega,by go_num,HK4,R⟩
 case measure=>simp[intOf];omega):P:=h
theorem xhh{P:Prop}(h:P:=by
 rw[yah,List.getElem?_set,yah]
 by_cases c:j=i
 ·subst c;simp[hi]
 ·simp[c]):P:=h
theorem xhi{P:Prop}(h:P:=by
 rcases Nat.lt_or_ge i F.length with c|c
 ·exact c
 ·exact xgt):P:=h
theorem xhj{P:Prop}(h:P:=by
 have hrun:=HS.out j hc
 go_wp2
 go_round
 case rel=>exact⟨j+1,by omega,rfl,by go_num⟩
 case measure=>simp[intOf];omega):P:=h
theorem xhk{P:Prop}(h:P:=by
 go_wp2_with (go_at_call 75;refine yai HC1'.out ?_;rintro e w2 ⟨rfl,hT⟩)
 go_ret
 rw[HR.out]
 exact⟨rfl,hT⟩):P:=h
theorem xhl{P:Prop}(h:P:=by
 go_wp2
 go_roundw
 case rel=>exact⟨j+1,_,_,by omega,by go_num,rfl,by go_num,R,HW2⟩
 case measure=>simp[intOf];omega):P:=h
theorem xhm{P:Prop}(h:P:=by
 clear hb
 go_wp2_with fail
 go_roundw
 case rel=>exact⟨k+1,by omega,by go_num,HR⟩
 case measure=>simp[intOf];omega):P:=h
theorem xhn{P:Prop}(h:P:=by
 go_wp2
 go_roundw
 case rel=>exact⟨trivial,j,by omega,by go_num,HR⟩
 case measure=>simp[intOf];have:=HG.out;omega):P:=h
theorem xho{P:Prop}(h:P:=by
 go_wp2_with (go_at_call 112;refine yai HC1.out ?_;rintro e w4 ⟨⟨x,rfl⟩,hT⟩)
 go_ret
 exact hT.out):P:=h
theorem xhp{P:Prop}(h:P:=by
 go_wp2
 go_roundw
 case rel=>exact⟨j+1,by omega,by have:=HI.out;go_num,R1⟩
 case measure=>simp[intOf];omega):P:=h
theorem xhq{P:Prop}(h:P:=by
 rw[ob] at c
 subst c
 rcases hG with e|e
 ·exact h2.new g9 (.inr e)
 ·exact .inr (by have:=h2.chg.size;omega)):P:=h
theorem xhr{P:Prop}(h:P:=by
 obtain⟨g',off',k,e1,e2,e3,_,e5⟩:=key o ho
 have:=(ha c).1
 rw[this] at e1
 cases e1
 exact⟨k,e2,e3,e5⟩):P:=h
theorem xhs{P:Prop}(h:P:=by
 rw[yah,List.getElem?_take_of_lt hk,List.getElem?_drop,<-yah]):P:=h
theorem xht{P:Prop}(h:P:=by
 rw[eW _ _ _ _ _ _ (.inl (Ne.symm h)),eW _ _ _ _ _ _ (.inl (Ne.symm h)),eW _ _ _ _ _ _ (.inl (Ne.symm h))]):P:=h
theorem xhu{P:Prop}(h:P:=by
 obtain⟨⟨v1,v2,v3,v4,h1,h2,h3⟩,h4⟩:=h
 exact⟨⟨v1,v2,v3,v4,h1.keep k,h2.keep k,h3⟩,eO h4 k⟩):P:=h
theorem xhv{P:Prop}(h:P:=by
 unfold vd
 rw[yah,yah,List.getElem?_map]
 cases vs[j]?<;>rfl):P:=h
theorem xhw{P:Prop}(h:P:=by
 rcases Nat.lt_or_ge g W'.heap.size with c|c
 ·exact c
 ·rw[Array.getElem?_eq_none c] at b2;cases b2):P:=h
theorem xhx{P:Prop}(h:P:=by
 go_wp2
 go_roundw
 case rel=>exact⟨k+1,by omega,by go_num,R1,R2⟩
 case measure=>simp[intOf];omega):P:=h
theorem xhy{P:Prop}(h:P:=by
 rcases Nat.lt_or_ge g w.heap.size with c|c
 ·exact c
 ·rw[Array.getElem?_eq_none c] at h;cases h):P:=h
theorem xhz{P:Prop}(h:P:=by
 rcases h.own.2 with⟨e,e0⟩|⟨g,c,_,e,_⟩
 ·exact⟨none,0,by rw[e,e0]⟩
 ·exact⟨_,c,e⟩):P:=h
theorem xia{P:Prop}(h:P:=by
 rw[Nat.testBit_two_pow_add_gt hi,show decide (63=i)=false from yax xaa];simp):P:=h
theorem xib{P:Prop}(h:P:=by
 rcases hM3.new b c with d|d
 ·exact hM.new b (.inl d)
 ·exact .inr (yan hM.chg.size d)):P:=h
theorem xic{P:Prop}(h:P:=by
 go_wp2
 go_roundw
 case rel=>exact⟨k+1,by omega,by go_num,R1⟩
 case measure=>simp[intOf];omega):P:=h
theorem xid{P:Prop}(h:P:=by
 go_wp2_with fail
 refine wp_loop_rounds 1 ?_
 rw[rounds_succ]
 go_wp2
 go_ret
 exact⟨rfl,rfl⟩):P:=h
theorem xie{P:Prop}(h:P:=by
 have:=((h0.nb i hi).mv mv).weak (M':=Mst P v1 v2 v3 v4) (λb hb=>.inl hb)
 rw[hnm]
 exact this):P:=h
theorem xif{P:Prop}(h:P:=by
 rw[if_neg,if_neg c]
 rw[List.mem_append]
 rintro (d|d)
 ·exact c d
 ·simp at d;exact h d.symm):P:=h
theorem xig{P:Prop}(h:P:=by
 rw[eW _ _ _ _ _ _ (.inl hgb),eW _ _ _ _ _ _ (.inl hgb),eW _ _ _ _ _ _ (.inl hgb)];exact q1'):P:=h
theorem xih{P:Prop}(h:P:=by
 rintro e w2 ⟨g',cap',rfl,own,s⟩
 rw[h.g.row] at s
 exact⟨g',cap',rfl,h.next k own s⟩):P:=h
theorem xii{P:Prop}(h:P:=by
 subst e3
 obtain⟨aE,cE,hu⟩:=HS.out.form
 subst hu
 go_upto_region 30 with fail
 exact WkM):P:=h
theorem xij{P:Prop}(h:P:=by
 rw[yah,yas hk,<-yah]):P:=h
theorem xik{P:Prop}(h:P:=by
 rw[yah,yas h,<-yah]):P:=h
theorem xil{P:Prop}(h:P:=by
 go_wp2_with fail
 go_ret
 exact⟨none,0,rfl,yav _ _ _ _,Kept.refl 0 0 _⟩):P:=h
theorem xim{P:Prop}(h:P:=by
 go_enter func32,ntmps32
 go_wp2
 all_goals
  go_ret
  exact⟨rfl,ez _ _ _ _⟩):P:=h
theorem xin{P:Prop}(h:P:=by
 simp only[List.append_nil]
 exact⟨_,_,_,rfl,eO h k,rfl,(StQ.refl _ _ w).keepQ k⟩):P:=h
theorem xio{P:Prop}(h:P:=by
 clear h0 h1 h2
 exact xfq):P:=h
theorem xip{P:Prop}(h:P:=by
 rw[yah,yal h]
 exact List.getElem_mem _):P:=h
theorem xiq{P:Prop}(h:P:=by
 rw[yah,List.getElem?_set_ne h,<-yah]):P:=h
theorem xir{P:Prop}(h:P:=by
 split
 ·exact .err xab
 ·split
  ·exact .err xab
  ·exact je _ _ _):P:=h
theorem xis{P:Prop}(h:P:=by
 have:=hA.out
 rw[yao (by rw[HL3.out];omega)] at this
 exact this):P:=h
theorem xit{P:Prop}(h:P:=by
 obtain⟨g,off,k,e1,_,_,e4,_⟩:=key v.a (oI c)
 exact⟨g,off,λ_=>⟨e1,e4⟩⟩):P:=h
theorem xiu{P:Prop}(h:P:=by
 go_wp2
 go_ret
 rw[HDi.out]
 exact⟨_,rfl,hyl,HR.out.drw _,hB.trans (eK _ _ _ _)⟩):P:=h
theorem xiv{P:Prop}(h:P:=by
 exfalso
 rcases hbd with⟨h3,_⟩|⟨_,h3,_⟩
 ·exact h3 h1.1
 ·have:=h1.2;omega):P:=h
theorem xiw{P:Prop}(h:P:=by
 have:=hA.out
 rw[yao (by rw[HX.out];omega)] at this
 exact this):P:=h
theorem xix{P:Prop}(h:P:=by
 have:=hA.out
 rw[yao (by rw[HL.out];omega)] at this
 exact this):P:=h
theorem xiy{P:Prop}(h:P:=by
 rcases q2.row with e|⟨r,e,hr⟩
 ·rw[e];exact hR
 ·rw[e];intro c;cases c;omega):P:=h
theorem xiz{P:Prop}(h:P:=by
 refine⟨k+1,by omega,by go_num,?_,?_⟩
 ·rw[HQ.out]
 ·rw[HQ.out];exact HS9.out):P:=h
theorem xja{P:Prop}(h:P:=by
 rcases s.row with c|⟨r,c,hr⟩
 ·exact .inl c
 ·exact .inr ⟨r,c,by omega⟩):P:=h
theorem xjb{P:Prop}(h:P:=by
 clear hs hs'
 go_enter func81,ntmps81
 go_wp2
 go_ret
 exact⟨rfl,rfl⟩):P:=h
theorem xjc{P:Prop}(h:P:=by
 unfold val
 rw[Nat.pow_zero,Nat.mul_one,Nat.mul_assoc,Nat.pow_sub_mul_pow 2 h]):P:=h
theorem xjd{P:Prop}(h:P:=by
 rw[yah,yal hk] at t
 simpa using t):P:=h
theorem xje{P:Prop}(h:P:=by
 refine⟨?_,?_,?_,?_,?_,?_,?_⟩
 all_goals first|(go_simp;done)|(simp;done)):P:=h
theorem xjf{P:Prop}(h:P:=by
 refine wp_mono h ?_
 intro e a' w' hq
 cases e<;>first|exact hq|exact hq.elim):P:=h
theorem xjg{P:Prop}(h:P:=by
 clear hz
 exact xey):P:=h
theorem xjh{P:Prop}(h:P:=by
 rcases hM3.new b c with d|d
 ·exact hO b hb d
 ·have:=(eG hrow hb).2;omega):P:=h
theorem xji{P:Prop}(h:P:=by
 refine(kk.block b xaa xaa).trans ?_
 exact f.k0.block b hb hn):P:=h
theorem xjj{P:Prop}(h:P:=by
 refine⟨?_,?_,?_,?_,?_,?_⟩
 all_goals first|(go_simp;done)|(simp;done)):P:=h
theorem xjk{P:Prop}(h:P:=by
 rw[e]
 go_enter func73,ntmps73
 go_wp2
 go_ret
 exact⟨rfl,rfl⟩):P:=h
theorem xjl{P:Prop}(h:P:=by
 have g1:=hb.out
 have g2:=hlv.out
 have g3:=HST.out
 constructor<;>omega):P:=h
theorem xjm{P:Prop}(h:P:=by
 go_enter func119,ntmps119
 go_wp2
 go_ret
 exact⟨rfl,rfl⟩):P:=h
theorem xjn{P:Prop}(h:P:=by
 obtain⟨g,e,h1,h2,h3⟩:=HTA.out h0
 exact⟨g,e,h1,h2.keep k3,h3⟩):P:=h
theorem xjo{P:Prop}(h:P:=by
 clear hx'
 go_wp2
 go_ret
 exact⟨by rw[R.out];rfl,Kept.refl _ _ _⟩):P:=h
theorem xjp{P:Prop}(h:P:=by
 clear hp hf hA hkn
 go_wp2
 go_ret
 exact⟨by rw[R.out];rfl,R2.out⟩):P:=h
theorem xjq{P:Prop}(h:P:=by
 rintro e w' ⟨rfl,rfl⟩
 go_wp2
 go_ret
 exact⟨rfl,ez _ _ _ _⟩):P:=h
theorem xjr{P:Prop}(h:P:=by
 rw[cell_of_row w g k _ _ _ h]
 simp[hk,List.getD_eq_getElem?_getD]):P:=h
theorem xjs{P:Prop}(h:P:=by
 rcases tk with tk|tk<;>exact⟨s1,j2,fS WkS hm λz X W HS=>WkE⟩):P:=h
theorem xjt{P:Prop}(h:P:=by
 rcases tk with tk|tk<;>exact⟨sL,jL,fS WkS hm λz X W HS=>WkE⟩):P:=h
theorem xju{P:Prop}(h:P:=by
 have:=HOSi.out k hl3
 exact⟨(fld v k).toNat,by omega,by omega⟩):P:=h
theorem xjv{P:Prop}(h:P:=by
 rcases r with⟨c,p⟩|x
 ·exact .err (h c p rfl)
 ·exact .ok):P:=h
