import Derived.Test.YtcagphgmfbjneaaGreatP10
namespace Go.Proofs.Z
open Tryz Go.RowKit Flt
set_option maxRecDepth 1000000
set_option maxHeartbeats 0
section
attribute[local go_sem] eE eD eC
variable{q k p P m1 l af m3 ah base aC cap cap':Nat}{Q:Nat->Prop}{w aH H ax am B cJ:World}{r:Int}{y u:Vl}{U aa J:Option Addr}{R R':Option Nat}{vs:List Vl}
def mvM(i:Int)(v:Vl)(ta tb tc:Int)(N:Nat):List Vl×Int:=
 if ta=-1/\tb=-1/\tc=-1 then ([],-1)
 else if v.op=2 then zx v.len ta tb N
 else if v.op=3 then zy v.len ta tb N
 else if v.op=4 then zB v ta tb N
 else if v.op=5 then zC i v ta tb N
 else if v.op=7 then ([eJ 3 v.len v.a v.b 0]++(chM v.len N ta tb (N+1)).1,(chM v.len N ta tb (N+1)).2)
 else if v.op=8 then (if tb=-1/\tc=-1 then ([],-1)else chM v.len v.a tb tc N)
 else if v.op=13 then ([eJ 4 v.len ta i 0],(N:Int))
 else ([eJ v.op v.len ta 0 v.c],(N:Int))
def ovs(v:Vl)(mv:List Int)(q j:Nat):Int:=if j<q then mv.getD (fld v j).toNat 0 else -1
theorem DO(v)(aA:q<cnt v.op):(fo v).getD q 0=[v.a,v.b,v.c].getD q 0:=by
 simp_all[fo]
theorem J5(v)(aA:q<3):fld v q=[v.a,v.b,v.c].getD q 0:=by
 rcases (by omega:q=0\/q=1\/q=2) with rfl|rfl|rfl<;>rfl
theorem two{b c}(h:¬(b=-1/\c=-1)):((b==-1)=false)\/((b==-1)=true/\(c==-1)=false):=by
 grind
def lD(k n:Nat):List Int:=List.replicate k (-1)++List.replicate (n-k) 0
theorem vT(k n)(h:k<=n):(lD k n).length=n:=by simp[lD];omega
theorem vU(n):lD n n=List.replicate n (-1):=by simp[lD]
theorem vV{n}(h:k<n):(lD k n).set k (-1)=lD (k+1) n:=by
 apply List.ext_getElem?;intro j;unfold lD;grind
def jmv(vs0:List Vl)(i:Nat)(st:List Vl×List Int):List Vl×Int:=
 mvM (i:Int) (vs0.getD i h9) (ovs (vs0.getD i h9) st.2 (cnt (vs0.getD i h9).op) 0) (ovs (vs0.getD i h9) st.2 (cnt (vs0.getD i h9).op) 1) (ovs (vs0.getD i h9) st.2 (cnt (vs0.getD i h9).op) 2) st.1.length
def jst(vs0:List Vl)(x t:Nat):Nat->List Vl×List Int
 |0=>(vs0,(List.replicate vs0.length (-1)).set x (t:Int))
 |k+1=>((jst vs0 x t k).1++(jmv vs0 (x+1+k) (jst vs0 x t k)).1,(jst vs0 x t k).2.set (x+1+k) (jmv vs0 (x+1+k) (jst vs0 x t k)).2)
theorem xM(vs0 x t):∀k,(jst vs0 x t k).2.length=vs0.length
 |0=>by simp[jst]
 |k+1=>by simp[jst,xM vs0 x t k]
theorem xN(vs0 x t):∀k,∃r,(jst vs0 x t k).1=vs0++r
 |0=>⟨[],by simp[jst]⟩
 |k+1=>by
  obtain⟨r,h⟩:=xN vs0 x t k
  grind[jst]
theorem CA(vs0 x t k){i}(hi:i<vs0.length):(jst vs0 x t k).1.getD i h9=vs0.getD i h9:=by
 obtain⟨r,h⟩:=xN vs0 x t k;grind
def Sz(k:Nat)(M:List Vl×Int):Prop:=M.1.length<=k/\0<=eZ M.1/\eZ M.1<=1000*(k:Int)
theorem iF{p}[Decidable p]{a b}(az:Sz k a)(hb:Sz k b):Sz k (if p then a else b):=by
 grind
theorem By:Sz k ([],r):=by grind[Sz,eZ]
theorem xO{v}(O:1<=k)(ak:0<=v.len)(F:v.len<=1000):Sz k ([v],r):=by grind[Sz,eZ]
theorem P4{v}(O:2<=k)(ak:0<=v.len)(F:v.len<=1000)(h2:0<=u.len)(h3:u.len<=1000):Sz k ([v,u],r):=by grind[Sz,eZ]
theorem NM{v}(O:3<=k)(ak:0<=v.len)(F:v.len<=1000)(h2:0<=u.len)(h3:u.len<=1000)(h4:0<=y.len)(bK:y.len<=1000):Sz k ([v,u,y],r):=by grind[Sz,eZ]
theorem Q8{v z}(O:4<=k)(ak:0<=v.len)(F:v.len<=1000)(h2:0<=u.len)(h3:u.len<=1000)(h4:0<=y.len)(bK:y.len<=1000)(b3:0<=z.len)(bZ:z.len<=1000):Sz k ([v,u,y,z],r):=by grind[Sz,eZ]
theorem J6{v M}(h:Sz k M)(ak:0<=v.len)(F:v.len<=1000):Sz (k+1) ([v]++M.1,r):=by
 unfold Sz at*;grind[eZ]
theorem MV{n d p q N}(ak:0<=n)(F:n<=1000):Sz 3 (chM n d p q N):=by
 unfold chM;exact iF (iF (NM xaa ak F ak F ak F) (P4 xaa ak F ak F)) (iF (P4 xaa ak F ak F) (xO xaa ak F))
theorem J7{M}(h:Sz k M)(O:k<=l):Sz l M:=by
 unfold Sz at*;omega
theorem Gt(i v aQ C S N)(ak:0<=v.len)(F:v.len<=1000):Sz 4 (mvM i v aQ C S N):=by
 unfold mvM zx zy zB zC
 exact iF By (iF (iF By (iF By (xO xaa ak F))) (iF (iF By (iF (xO xaa ak F) (xO xaa ak F)))
  (iF (iF (iF By (xO xaa ak F)) (iF (xO xaa ak F) (NM xaa ak F ak F ak F)))
  (iF (iF (iF By (NM xaa ak F ak F ak F)) (iF (xO xaa ak F) (Q8 xaa ak F ak F ak F ak F)))
  (iF (J6 (MV ak F) ak F) (iF (iF By (J7 (MV ak F) xaa)) (iF (xO xaa ak F) (xO xaa ak F))))))))
theorem ut(vs0 x t)(ai:∀k,k<vs0.length->1<=(vs0.getD k h9).len/\(vs0.getD k h9).len<=1000)(av:0<=eZ vs0)(cd:eZ vs0<=50000):∀k,x+k<vs0.length->(jst vs0 x t k).1.length<=vs0.length+4*k/\0<=eZ (jst vs0 x t k).1/\eZ (jst vs0 x t k).1<=50000+4000*k
 |0,_=>by simp[jst];omega
 |k+1,O=>by
  have G:=ut _ x t ai av cd k xaa
  have aN:=ai (x+1+k) xaa
  have ao:=Gt (x+1+k:Nat) (vs0.getD (x+1+k) h9) (ovs (vs0.getD (x+1+k) h9) (jst vs0 x t k).2 (cnt (vs0.getD (x+1+k) h9).op) 0) (ovs (vs0.getD (x+1+k) h9) (jst vs0 x t k).2 (cnt (vs0.getD (x+1+k) h9).op) 1) (ovs (vs0.getD (x+1+k) h9) (jst vs0 x t k).2 (cnt (vs0.getD (x+1+k) h9).op) 2) (jst vs0 x t k).1.length xaa xaa
  rw[jst]
  simp only[yal,uh]
  unfold jmv
  unfold Sz at ao
  omega
def jR(vs0:List Vl)(s x t:Nat):List Vl×Int:=
 if (jst vs0 x t (s-x)).2.getD s 0=-1 then ((jst vs0 x t (s-x)).1++[eJ 1 (vs0.getD s h9).len 0 0 0],((jst vs0 x t (s-x)).1.length:Nat))else ((jst vs0 x t (s-x)).1,(jst vs0 x t (s-x)).2.getD s 0)
theorem mP:∀(vs:List Vl),(∀j,j<vs.length->0<=(vs.getD j h9).len)->0<=eZ vs
 |[],_=>by simp[eZ]
 |v::r,h=>by
  have ak:=h 0 xac
  have F:=mP r (λj hj=>h (j+1) yag)
  have e:(v::r).getD 0 h9=v:=rfl
  rw[e]at ak
  simp only[eZ]
  omega
theorem mE{ins}(ok:okV ins vs k=true):∀q,q<cnt (vs.getD k h9).op->0<=fld (vs.getD k h9) q/\fld (vs.getD k h9) q<k:=λq aA=>by
 by_cases ak:(vs.getD k h9).op=0
 ·grind[cnt]
 ·unfold okV at ok
  rw[h6 ak]at ok
  simp only[Bool.and_eq_true]at ok
  have h:=List.all_eq_true.1 ok.2.1 _ (pr (by rw[DC];exact aA))
  have h2:=of_decide_eq_true h
  grind[DO,J5,gK]
def kz(vs:List Vl):Bool:=decide (2000<vs.length\/50000<eZ vs)
theorem gG(w op n a b c):Calls prog 79 #[h1 op,h1 n,h1 a,h1 b,h1 c] w λe B=>e=.returned (eJ op n a b c).agg/\Kept 0 0 w B:=by
 go_enter func79,ntmps79;go_wp2_with fail;refine yaz (v:=(eJ op n a b c).agg) (by simp[results,results79,go_sem]) rfl ⟨rfl,eA 0 0 w _⟩
theorem pt(w n):Calls prog 94 #[h1 n] w λe B=>e=.returned (eJ 1 n 0 0 0).agg/\Kept 0 0 w B:=by
 go_enter func94,ntmps94;go_wp2_with fail;refine yaz (v:=(eJ 1 n 0 0 0).agg) (by simp[results,results94,go_sem]) rfl ⟨rfl,eA 0 0 w _⟩
theorem iY(w a1 J a3 Z c1 ae c2 ab c3)(ag:ae<=1000000):Calls prog 85 #[eX a1 Z c1 J ae c2 a3 ab c3] w λe B=>e=.returned (h1 ((ae:Int)-1))/\Kept 0 0 w B:=by
 go_enter func85,ntmps85;go_wp2;go_ret;exact⟨rfl,eA 0 0 w _⟩
theorem J8{bn cT v o}(_h:w.ownsRow base 86 6 cT vs.length (fN vs))(k:Kept 0 0 w aH)
  (bU:bn.ownsRow base 86 6 (h0 aC (vs.length+1) cap') (vs.length+1) (fN vs++v.cells)) (bK:(aH.alloc o).grownBy bn cT.ownBlock) (bw:cT.ownBlock=some aC\/aC=(aH.alloc o).heap.size):
  bn.ownsRow base 86 6 (h0 aC (vs.length+1) cap') (vs.length+1) (fN (vs++[v]))/\StQ (λ_=>False) cT.ownBlock w (some aC) bn:=by
 refine⟨by rw[mC,qE];exact bU,⟨bK.os.trans k.os,bK.tape.trans k.tape,bK.output.trans k.output,?_,λi hi ag=>?_⟩,?_⟩
 ·have F:=bK.size;have h2:=k.size;simp at F;omega
 ·have h2:=k.size;rw[bK.block i yag (λc=>ag (.inr c.symm)),Below.heap_alloc _ o i xaa];exact k.block i hi xaa
 rcases bw with e|e
 ·grind
 have h2:=k.size;exact .inr ⟨_,rfl,by rw[e];simp;omega⟩
theorem StQ.new{h}(s:StQ Q R w R' B)(k:Kept l h B cJ)(ai:w.heap.size<=l):StQ Q R w R' cJ:=
 ⟨⟨k.os.trans s.chg.os,k.tape.trans s.chg.tape,k.output.trans s.chg.output,yao s.chg.size k.size,λi hi ag=>by
   rw[k.block i (yak hi s.chg.size) xaa]
   exact s.chg.block i hi ag⟩,s.row⟩
theorem sj(w U J aa m1 af cap m3 ah base vs v)(h:w.ownsRow base 86 6 (.slice J vs.length cap) vs.length (fN vs))(hb:base<=w.heap.size)(ag:vs.length<=1000000):
  Calls prog 78 #[eX U m1 af J vs.length cap aa m3 ah,v.agg] w λe B=>∃aC cap',e=.returned (eX U m1 af (some ⟨aC,0,none⟩) (vs.length+1) cap' aa m3 ah)/\B.ownsRow base 86 6 (h0 aC (vs.length+1) cap') (vs.length+1) (fN (vs++[v]))/\StQ (λ_=>False) (Value.slice J vs.length cap).ownBlock w (some aC) B:=by
 obtain⟨b1,hi,hz0,hz1,hz2⟩:=info_parts yW;have an:=eA 0 0 w (fx U m1 af J vs.length cap aa m3 ah);have av:=eA 0 0 (w.alloc (fx U m1 af J vs.length cap aa m3 ah)) (fW v.op v.len v.a v.b v.c v.k);have aZ:=eA 0 0 ((w.alloc (fx U m1 af J vs.length cap aa m3 ah)).alloc (fW v.op v.len v.a v.b v.c v.k)) fH;have br:=((hH w (.slice U m1 af) (.slice J vs.length cap) (.slice aa m3 ah)).keep av).keep aZ
 have b:∀o,(((w.alloc (fx U m1 af J vs.length cap aa m3 ah)).alloc (fW v.op v.len v.a v.b v.c v.k)).alloc fH).frozen? ⟨w.heap.size,o,none⟩=false:=λo=>by
  rw[(av.trans aZ).frozen (p:=⟨w.heap.size,o,none⟩) xac xaa]
  simp
 have az:=(mf (w.alloc (fx U m1 af J vs.length cap aa m3 ah)) v).keep xac aZ yaa;have bI:=iW ((w.alloc (fx U m1 af J vs.length cap aa m3 ah)).alloc (fW v.op v.len v.a v.b v.c v.k));rw[show((w.alloc (fx U m1 af J vs.length cap aa m3 ah)).alloc (fW v.op v.len v.a v.b v.c v.k)).heap.size=w.heap.size+1+1 by simp]at bI;rw[show(w.alloc (fx U m1 af J vs.length cap aa m3 ah)).heap.size=w.heap.size+1 by simp]at az;have O:=(an.trans av).trans aZ;have bq:=eN h O;have bE:V _:=h;have HK:V _:=O;have HN:V _:=bI;have bv:V _:=br;have bj:V _:=b;obtain⟨_,bH,bk,p2⟩:=br;obtain⟨aw,ba,bb,bc,bo,aF⟩:=az;have cO:=yao hb O.size;clear an av aZ b bI O h;go_enter func78,ntmps78;go_wp2_with (first|(at_builtin;refine wpList_append_lies _ rfl _ _ 106 rfl base 86 b1 (lK 0 0 0 0 0 0) 6 48 underlying106 hi hz0 hz1 hz2 rfl xab _ _ (fN vs) rfl (bq.alloc _) ⟨w.heap.size+1+1+1,0,none⟩ 1 1 v.cells rfl rfl ?c1 ?c2 xab ?c3 ?c4 ?c5 _ rfl ?_))
 case c1=>
  have b3:=Cu (((w.alloc (fx U m1 af J vs.length cap aa m3 ah)).alloc (fW v.op v.len v.a v.b v.c v.k)).alloc fH) v 0;rw[show(((w.alloc (fx U m1 af J vs.length cap aa m3 ah)).alloc (fW v.op v.len v.a v.b v.c v.k)).alloc fH).heap.size=w.heap.size+1+1+1 by simp]at b3;exact b3
 case c2=>exact F0 v
 case c3=>unfold maxLen;omega
 case c4=>omega
 case c5=>simp;omega
 intro g9 cap9 bn bU bK bO bV;have a:(((w.alloc (fx U m1 af J vs.length cap aa m3 ah)).alloc (fW v.op v.len v.a v.b v.c v.k)).alloc fH).heap.size=w.heap.size+1+1+1:=by simp
 have be:(Value.slice J vs.length cap).ownBlock=some g9\/g9=((((w.alloc (fx U m1 af J vs.length cap aa m3 ah)).alloc (fW v.op v.len v.a v.b v.c v.k)).alloc fH).alloc (.cells #[h1 v.op,h1 v.len,h1 v.a,h1 v.b,h1 v.c,.float .f64 v.k] 86)).heap.size:=bO.imp id (λe=>by rw[e];simp);obtain⟨aq,aT⟩:=J8 (v:=v) bE.o HK.o bU bK be;have a8:∀I,w.heap.size<=I->(Value.slice J vs.length cap).ownBlock≠some I:=λI a7 e=>ix ((eG bE.o e).2)
 have j:g9<w.heap.size\/w.heap.size+1+1+1<g9:=by
  rcases be with e|e
  ·exact .inl (eG bE.o e).2
  right;rw[e];simp
 have bF:=kR (m:=0) bK (i3 a) (a8 w.heap.size yad) bH;have bB:=kR (m:=0) bK (i3 a) (a8 w.heap.size yad) bk;have bG:=kR (m:=0) bK (i3 a) (a8 w.heap.size yad) p2;have n:=far2 (m:=0) bK (i3 a) (a8 w.heap.size yad) (bj.o 1);obtain⟨_,ci,Z,ae,cF,el,bl⟩:=HN.o;have bh:=kR (m:=0) bK (i3 a) (a8 (w.heap.size+1+1) xaa) ci;have aJ:=kR (m:=0) bK (i3 a) (a8 (w.heap.size+1+1) xaa) Z;have y2:=kR (m:=0) bK (i3 a) (a8 (w.heap.size+1+1) xaa) ae;have bP:=far2 (m:=0) bK (i3 a) (a8 (w.heap.size+1+1) xaa) cF;have aR:=far2 (m:=0) bK (i3 a) (a8 (w.heap.size+1+1) xaa) el;have bd:=far2 (m:=0) bK (i3 a) (a8 (w.heap.size+1+1) xaa) bl;have R1:V _:=aq;have R2:V _:=aT;clear aq aT bU bK bO be a8 bq bE HK HN bv bj bH bk p2 aw ba bb bc bo aF cO a ci Z ae cF el bl bV;go_wp2_with fail
 have d:∀I,(I=w.heap.size\/I=w.heap.size+1+1)->(h0 g9 (vs.length+1) cap9).ownBlock≠some I:=λI a7 e=>by
  have a2:g9=I:=by simpa[Value.ownBlock] using e
  omega
 have ch:=eI (o:=2) (u:=.slice aa m3 ah) (eI (o:=1) (u:=h0 g9 (vs.length+1) cap9) (eI (o:=0) (u:=.slice U m1 af) (eI (o:=1) (u:=h0 g9 (vs.length+1) cap9) R1.o (d w.heap.size (.inl rfl))) (d (w.heap.size+1+1) (.inr rfl))) (d (w.heap.size+1+1) (.inr rfl))) (d (w.heap.size+1+1) (.inr rfl));have f:(bn.setCell ⟨w.heap.size,1,none⟩ (h0 g9 (vs.length+1) cap9)).cell? ⟨w.heap.size+1+1,0,none⟩=_:=(eV _ _ _ _ _ _ (.inl xaa)).trans bh;have g:(bn.setCell ⟨w.heap.size,1,none⟩ (h0 g9 (vs.length+1) cap9)).cell? ⟨w.heap.size+1+1,1,none⟩=_:=(eV _ _ _ _ _ _ (.inl xaa)).trans aJ;have m:(bn.setCell ⟨w.heap.size,1,none⟩ (h0 g9 (vs.length+1) cap9)).cell? ⟨w.heap.size+1+1,2,none⟩=_:=(eV _ _ _ _ _ _ (.inl xaa)).trans y2;obtain⟨aY,ar,aW⟩:=fd (bn.setCell ⟨w.heap.size,1,none⟩ (h0 g9 (vs.length+1) cap9)) (w.heap.size+1+1) _ _ _ f g m (.slice U m1 af) (h0 g9 (vs.length+1) cap9) (.slice aa m3 ah);have ay:=StQ.new R2.o (eU (lo:=w.heap.size) (hi:=w.heap.size+1) bn ⟨w.heap.size,1,none⟩ (h0 g9 (vs.length+1) cap9) yac) yad;have aB:=StQ.new ay (fk (bn.setCell ⟨w.heap.size,1,none⟩ (h0 g9 (vs.length+1) cap9)) (w.heap.size+1+1) (.slice U m1 af) (h0 g9 (vs.length+1) cap9) (.slice aa m3 ah)) xaa;refine yaz (v:=eX U m1 af (some ⟨g9,0,none⟩) (vs.length+1) cap9 aa m3 ah) (by simp[results,results78,go_sem,aY,ar,aW]) rfl ⟨g9,cap9,rfl,ch,aB⟩
theorem DP(w a1 J a3 Z c1 ae c2 ab c3 a n)(h:0<=a):
  Calls prog 141 #[eX a1 Z c1 J ae c2 a3 ab c3,h1 a,h1 n] w λe B=>e=.returned (.tuple #[eX a1 Z c1 J ae c2 a3 ab c3,h1 a])/\Kept 0 0 w B:=by
 go_enter func141,ntmps141;go_wp2_with fail;refine yaz (v:=.tuple #[eX a1 Z c1 J ae c2 a3 ab c3,h1 a]) (by simp[results,results141,go_sem]) rfl ⟨rfl,(eA 0 0 w _).trans (eA 0 0 _ _)⟩
structure SG(w:World)(P:Nat)(b1:Option Addr)(m1 e1:Nat)(b3:Option Addr)(m3 e3:Nat)(vs:List Vl)(base:Nat)(R:Option Nat)(a2:Option Addr)(cap:Nat):Prop where
 lt:P<w.heap.size
 free:∀o,w.frozen? ⟨P,o,none⟩=false
 c0:w.cell? ⟨P,0,none⟩=some (.slice b1 m1 e1)
 c1:w.cell? ⟨P,1,none⟩=some (.slice a2 vs.length cap)
 c2:w.cell? ⟨P,2,none⟩=some (.slice b3 m3 e3)
 own:w.ownsRow base 86 6 (.slice a2 vs.length cap) vs.length (fN vs)
 row:(Value.slice a2 vs.length cap).ownBlock=R
 ne:R≠some P
 sz:base<=w.heap.size
theorem SG.keep(h:SG w P U m1 af aa m3 ah vs base R J cap)(k:Kept 0 0 w B):SG B P U m1 af aa m3 ah vs base R J cap:=
 have e:∀o,B.cell? ⟨P,o,none⟩=w.cell? ⟨P,o,none⟩:=λo=>k.cell (p:=⟨P,o,none⟩) h.lt xaa
 ⟨yak h.lt k.size,λo=>by rw[k.frozen h.lt xaa];exact h.free o,i1 e h.c0,i1 e h.c1,i1 e h.c2,eN h.own k,h.row,h.ne,yao h.sz k.size⟩
def fg(w:World)(P:Nat)(x y z:Value):World:=((w.setCell ⟨P,0,none⟩ x).setCell ⟨P,1,none⟩ y).setCell ⟨P,2,none⟩ z
theorem SG.put{v}(h:SG w P U m1 af aa m3 ah vs base R J cap)(k:Kept 0 0 w aH)
  (own:am.ownsRow base 86 6 (h0 aC (vs.length+1) cap') (vs.length+1) (fN (vs++[v]))) (s:StQ (λ_=>False) R aH (some aC) am):
  SG (fg am P (.slice U m1 af) (h0 aC (vs.length+1) cap') (.slice aa m3 ah)) P U m1 af aa m3 ah (vs++[v]) base (some aC) (some ⟨aC,0,none⟩) cap'/\StQ (λi=>i=P) R w (some aC) (fg am P (.slice U m1 af) (h0 aC (vs.length+1) cap') (.slice aa m3 ah)):=by
 have hlt:=h.lt;have b2:=k.size
 have bc:aC≠P:=by
  rcases s.row with e|⟨r,e,aF⟩
  ·exact λc=>h.ne (by rw[<-e,c])
  grind
 have hb:=s.chg.block P xaa (by rintro (c|c);exact c;exact h.ne c);have e:∀o,_:=λo=>(World.cell?_of_block hb).trans (k.cell (p:=⟨P,o,none⟩) h.lt xaa);have x:∀o,_:=λo=>(World.frozen?_of_block hb).trans (k.frozen (p:=⟨P,o,none⟩) h.lt xaa);obtain⟨bh,aJ,y2⟩:=fd _ P _ _ _ ((e 0).trans h.c0) ((e 1).trans h.c1) ((e 2).trans h.c2) (.slice U m1 af) (h0 aC (vs.length+1) cap') (.slice aa m3 ah);have aX:=fk am P (.slice U m1 af) (h0 aC (vs.length+1) cap') (.slice aa m3 ah);have ai:(vs++[v]).length=vs.length+1:=by simp
 have d:(h0 _ (vs.length+1) cap').ownBlock≠some P:=λc=>bc (by simpa[Value.ownBlock] using c);refine⟨⟨?_,λo=>?_,bh,i1 ai aJ,y2,?_,rfl,λc=>bc (by simpa using c),?_⟩,⟨?_,?_,?_,?_,λi hi ag=>?_⟩,?_⟩
 ·have:=aX.size;have:=s.chg.size;unfold fg;omega
 ·unfold fg;simp[x o,h.free o]
 ·rw[ai];exact eI (eI (eI own d) d) d
 ·have:=aX.size;have:=s.chg.size;have:=h.sz;unfold fg;omega
 ·exact aX.os.trans (s.chg.os.trans k.os)
 ·exact aX.tape.trans (s.chg.tape.trans k.tape)
 ·exact aX.output.trans (s.chg.output.trans k.output)
 ·have:=aX.size;have:=s.chg.size;unfold fg;omega
 ·unfold fg;rw[aX.block i (ix s.chg.size) (λc=>ag (.inl xaa)),s.chg.block i xaa (by grind)];exact k.block i hi xaa
 rcases s.row with c|⟨r,c,aF⟩<;>grind
theorem SG.call(h:SG w P U m1 af aa m3 ah vs base R J cap)(k:Kept 0 0 w aH)(v)(ag:vs.length<=1000000):
  Calls prog 78 #[eX U m1 af J vs.length cap aa m3 ah,v.agg] aH λe am=>∃aC cap',e=.returned (eX U m1 af (some ⟨aC,0,none⟩) (vs.length+1) cap' aa m3 ah)/\
   (∃u,am.cell? ⟨P,0,none⟩=some u)/\(∃u,am.cell? ⟨P,1,none⟩=some u)/\(∃u,am.cell? ⟨P,2,none⟩=some u)/\(∀o,am.frozen? ⟨P,o,none⟩=false)/\
   V (SG (fg am P (.slice U m1 af) (h0 aC (vs.length+1) cap') (.slice aa m3 ah)) P U m1 af aa m3 ah (vs++[v]) base (some aC) (some ⟨aC,0,none⟩) cap'/\StQ (λi=>i=P) R w (some aC) (fg am P (.slice U m1 af) (h0 aC (vs.length+1) cap') (.slice aa m3 ah))):=by
 have F:=h.keep k;refine(sj _ _ _ _ _ _ _ _ _ _ _ v F.own F.sz ag).mono ?_;rintro e am ⟨aC,cap',rfl,own,s⟩;rw[h.row]at s;have hb:=s.chg.block P F.lt (by rintro (c|c);exact c;exact h.ne c);have e:∀o,_:=λo=>World.cell?_of_block (a:=⟨P,o,none⟩) hb;have x:∀o,_:=λo=>World.frozen?_of_block (a:=⟨P,o,none⟩) hb;exact⟨_,_,rfl,⟨_,(e 0).trans F.c0⟩,⟨_,(e 1).trans F.c1⟩,⟨_,(e 2).trans F.c2⟩,λo=>by rw[x];exact F.free o,h.put k own s⟩
theorem RB.stq{W bL U aV}(t:RB W p bL U aV)(s:StQ (λi=>i=P) R W R' H)(aQ:p≠P)(K:R≠some p):RB H p bL U aV:=by
 have ag:¬((λi=>i=P) p\/R=some p):=by grind
 have e:∀o,_:=λo=>s.chg.cell (p:=⟨p,o,none⟩) t.sz ag;have f:∀o,_:=λo=>s.chg.frozen (p:=⟨p,o,none⟩) t.sz ag;exact⟨yak t.sz s.chg.size,i1 e t.q0,i1 e t.q1,i1 e t.q2,i1 f t.f0,i1 f t.f1,i1 f t.f2⟩
theorem StQ.keepQ(s:StQ Q R w R' B)(k:Kept 0 0 B cJ):StQ Q R w R' cJ:=s.new (l:=w.heap.size) (h:=w.heap.size) (k.mono λ_ _ c=>by omega) yad
theorem StQ.drop{t}(s:StQ (λi=>i=P) R t R' H)(k:Kept 0 0 w t)(hP:w.heap.size<=P):StQ (λ_=>False) R w R' H:=
 ⟨⟨s.chg.os.trans k.os,s.chg.tape.trans k.tape,s.chg.output.trans k.output,yao k.size s.chg.size,λi hi ag=>by
   rw[s.chg.block i (yak hi k.size) (by grind)]
   exact k.block i hi xaa⟩,by
   rcases s.row with c|⟨r,c,aF⟩
   ·exact .inl c
   ·exact .inr ⟨r,c,yao k.size aF⟩⟩
theorem StQ.far{I}(s:StQ Q R w (some aC) H)(a7:I<w.heap.size)(K:R≠some I):aC≠I:=by
 rcases s.row with c|⟨r,c,aF⟩<;>grind
theorem DQ(w U J aa m1 af cap m3 ah base vs a n)(h:w.ownsRow base 86 6 (.slice J vs.length cap) vs.length (fN vs))(hb:base<=w.heap.size)(ag:vs.length<=900000)(az:a<0):
  Calls prog 141 #[eX U m1 af J vs.length cap aa m3 ah,h1 a,h1 n] w λe B=>∃aC cap',e=.returned (.tuple #[eX U m1 af (some ⟨aC,0,none⟩) (vs.length+1) cap' aa m3 ah,h1 (vs.length:Nat)])/\B.ownsRow base 86 6 (h0 aC (vs.length+1) cap') (vs.length+1) (fN (vs++[eJ 1 n 0 0 0]))/\StQ (λ_=>False) (Value.slice J vs.length cap).ownBlock w (some aC) B:=by
 have an:=eA 0 0 w (fx U m1 af J vs.length cap aa m3 ah);have av:=eA 0 0 (w.alloc (fx U m1 af J vs.length cap aa m3 ah)) fH;have br:=(hH w _ _ _).keep av
 have a2:SG _ _ _ _ _ _ _ _ _ _ _ _ _:=
  ⟨br.sz,λo=>by simp,br.q0,br.q1,br.q2,eN h (an.trans av),rfl,λe=>ix ((eG h e).2),by simp;omega⟩
 have bI:=iW (w.alloc (fx U m1 af J vs.length cap aa m3 ah));rw[show(w.alloc _).heap.size=w.heap.size+1 by simp]at bI;have HN:V _:=bI;have au:V _:=a2;have HK:V _:=an.trans av;have HR:V (∀I,w.heap.size<=I->(Value.slice J _ _).ownBlock≠some I):=λI a7 e=>ix ((eG h e).2)
 have bH:=a2.c0;have bk:=a2.c1;have p2:=a2.c2;have bN:=a2.free;clear h an av br a2 bI;go_enter func141,ntmps141;go_upto_region 3 with fail;generalize (w.alloc _).alloc _=t at HN au HK bH bk p2 bN⊢;go_cut [] (λbb=>∃aC cap',V (SG bb w.heap.size U m1 af aa m3 ah (vs++[eJ 1 n 0 0 0]) base (some aC) (some ⟨aC,0,none⟩) cap'/\StQ (λi=>i=w.heap.size) (Value.slice J vs.length cap).ownBlock t (some aC) bb))
 case first=>
  go_region_with (first
   |(go_at_call 78;refine yaj (SG.call au.o ((eF t).trans an) (eJ 1 n 0 0 0) xaa) ?_;rintro e am ⟨aC,cap',rfl,⟨u0,bq⟩,⟨u1,aq⟩,⟨u2,aT⟩,ak,bU⟩)
   |(go_at_call 94;refine yaj (pt _ _) ?_;rintro e aH ⟨rfl,an⟩;obtain⟨_,_,aY,ar,aW,_,_,_,_⟩:=SG.keep au.o ((eF t).trans an)))
  all_goals (go_wp2_with fail;go_meet;exact⟨aC,cap',bU⟩)
 case rest=>
  obtain⟨aC,cap',bU⟩:=hcut;have ai:(vs++[eJ 1 n 0 0 0]).length=vs.length+1:=by simp
  obtain⟨aR,bd,bu,bC,ct,X,bx,a5,bD⟩:=bU.o.1;have f:(Value.slice J _ _).ownBlock≠some (w.heap.size+1):=λe=>HR.o _ xaa e;have C:V _:=RB.stq HN.o bU.o.2 xaa f;rw[ai]at bC X;have HO:V _:=X;clear aR bd X bx a5 bD bH bk p2 bN;have b:V _:=λW=>iY W U (some ⟨aC,0,none⟩) aa m1 af (vs.length+1) cap' m3 ah xaa;rw[show((vs.length+1:Nat):Int)-1=vs.length by omega]at b;have g:V (∀W,Kept 0 0 _ W->SG W _ _ _ _ _ _ _ _ _ _ _ _/\RB W _ _ _ _):=λW k=>⟨bU.o.1.keep k,RB.keep C.o k⟩
  have Y:V (∀W,Kept 0 0 _ W->(fg W _ (.slice U m1 af) (h0 aC (vs.length+1) cap') (.slice aa m3 ah)).ownsRow _ _ 6 _ _ _/\StQ _ _ w _ (fg W _ (.slice U m1 af) (h0 aC (vs.length+1) cap') (.slice aa m3 ah))):=λW k=>by
   have bc:=bU.o.2.far HN.o.sz f
   have d:(h0 _ (vs.length+1) cap').ownBlock≠some _:=λc=>bc (by simpa[Value.ownBlock] using c)
   refine⟨eI (eI (eI (eN HO.o k) d) d) d,?_⟩
   exact((bU.o.2.drop HK.o yad).keepQ k).new (fk W (w.heap.size+1) _ _ _) xaa
  clear HN au C HO HR f;go_upto_region 4 with fail
  go_region_with (first
   |(go_at_call 85;refine yaj (b.o _) ?_;rintro e aU ⟨rfl,aZ⟩;obtain⟨⟨_,_,aY,ar,aW,_,_,_,_⟩,⟨_,bl,aS,a9,bF,bB,bG⟩⟩:=g.o aU ((eF wc).trans aZ);rw[ai]at ar;have cG:V _:=Y.o aU ((eF wc).trans aZ)))
  all_goals
   go_wp2_with fail
   obtain⟨bh,aJ,y2⟩:=fd aU (w.heap.size+1) _ _ _ bl aS a9 (.slice U m1 af) (h0 aC (vs.length+1) cap') (.slice aa m3 ah)
   refine yaz (v:=.tuple #[eX U m1 af (some ⟨aC,0,none⟩) (vs.length+1) cap' aa m3 ah,h1 (vs.length:Nat)]) (by simp[results,results141,go_sem,bh,aJ,y2]) rfl ⟨aC,cap',rfl,cG.o.1,cG.o.2⟩
def MvP(w:World)(b1:Option Addr)(m1 e1:Nat)(b3:Option Addr)(m3 e3:Nat)(vs:List Vl)(base:Nat)(R:Option Nat)(M:List Vl×Int)(e:Ending)(w':World):Prop:=
 ∃a2' cap' R',e=.returned (.tuple #[eX b1 m1 e1 a2' (vs++M.1).length cap' b3 m3 e3,.int .i64 M.2])/\w'.ownsRow base 86 6 (.slice a2' (vs++M.1).length cap') (vs++M.1).length (fN (vs++M.1))/\(Value.slice a2' (vs++M.1).length cap').ownBlock=R'/\StQ (λ_=>False) R w R' w'
theorem At.stq{W o v}(t:At W p o v)(ai:p<W.heap.size)(s:StQ (λi=>i=P) R W R' H)(aQ:p≠P)(K:R≠some p):At H p o v:=by
 have ag:¬((λi=>i=P) p\/R=some p):=by grind
 have e:∀o,_:=λo=>s.chg.cell (p:=⟨p,o,none⟩) ai ag;obtain⟨aP,ay,aB,bz,a0,cf⟩:=t;exact⟨by grind,by grind,by grind,by grind,by grind,by grind⟩
theorem StQ.seq{f W d}(a:StQ Q R w R' W)(b:StQ f R' W d H)(h:∀i,i<w.heap.size->¬f i):StQ Q R w d H where
 chg:=⟨b.chg.os.trans a.chg.os,b.chg.tape.trans a.chg.tape,b.chg.output.trans a.chg.output,yao a.chg.size b.chg.size,λk O ag=>by
  rw[b.chg.block k (yak O a.chg.size) ?_]
  ·exact a.chg.block k O ag
  ·rintro (c|c)
   ·grind
   ·rcases a.row with e|⟨r,e,aF⟩<;>grind⟩
 row:=by
  rcases b.row with e|⟨r,e,aF⟩
  ·rw[e];exact a.row
  exact .inr ⟨r,e,yao a.chg.size aF⟩
structure MS(w W:World)(b1:Option Addr)(m1 e1:Nat)(b3:Option Addr)(m3 e3:Nat)(vs:List Vl)(v:Vl)(base:Nat)(R R':Option Nat)(a2:Option Addr)(cap:Nat):Prop where
 g:SG W w.heap.size b1 m1 e1 b3 m3 e3 vs base R' a2 cap
 b:RB W (w.heap.size+1) (.slice none 0 0) (.slice none 0 0) (.slice none 0 0)
 v:At W (w.heap.size+1+1) 0 v
 lt:w.heap.size+1+1<W.heap.size
 n1:R'≠some (w.heap.size+1)
 n2:R'≠some (w.heap.size+1+1)
 s:StQ (λ_=>False) R w R' W
theorem MS.keep{W v}(h:MS w W U m1 af aa m3 ah vs v base R R' J cap)(k:Kept 0 0 W H):MS w H U m1 af aa m3 ah vs v base R R' J cap:=
 ⟨h.g.keep k,h.b.keep k,h.v.keep h.lt k yaa,yak h.lt k.size,h.n1,h.n2,h.s.keepQ k⟩
theorem MS.start(v)(h:w.ownsRow base 86 6 (.slice J vs.length cap) vs.length (fN vs))(hb:base<=w.heap.size):
  MS w (((w.alloc (fx U m1 af J vs.length cap aa m3 ah)).alloc fH).alloc (fW v.op v.len v.a v.b v.c v.k)) U m1 af aa m3 ah vs v base (Value.slice J vs.length cap).ownBlock (Value.slice J vs.length cap).ownBlock J cap:=by
 have an:=eA 0 0 w (fx U m1 af J vs.length cap aa m3 ah);have av:=eA 0 0 (w.alloc (fx U m1 af J vs.length cap aa m3 ah)) fH;have aZ:=eA 0 0 ((w.alloc (fx U m1 af J vs.length cap aa m3 ah)).alloc fH) (fW v.op v.len v.a v.b v.c v.k);have br:=((hH w _ _ _).keep av).keep aZ;have K:∀I,w.heap.size<=I->(Value.slice J _ _).ownBlock≠some I:=λI a7 e=>ix ((eG h e).2)
 have bI:=iW (w.alloc (fx U m1 af J vs.length cap aa m3 ah));rw[show(w.alloc _).heap.size=w.heap.size+1 by simp]at bI;have az:=mf ((w.alloc (fx U m1 af J vs.length cap aa m3 ah)).alloc fH) v;rw[show((w.alloc _).alloc _).heap.size=w.heap.size+1+1 by simp]at az;exact⟨⟨br.sz,λo=>by rw[(av.trans aZ).frozen xac xaa];simp,br.q0,br.q1,br.q2,eN h ((an.trans av).trans aZ),rfl,K _ yad,by simp;omega⟩,bI.keep aZ,az,by simp,K _ xaa,K _ xaa,(StQ.refl _ _ w).keepQ ((an.trans av).trans aZ)⟩
theorem MS.next{W v}(h:MS w W U m1 af aa m3 ah vs v base R R' J cap)(k:Kept 0 0 W ax)
  (own:am.ownsRow base 86 6 (h0 aC (vs.length+1) cap') (vs.length+1) (fN (vs++[u]))) (s:StQ (λ_=>False) R' ax (some aC) am):
  (∃u,am.cell? ⟨w.heap.size,0,none⟩=some u)/\(∃u,am.cell? ⟨w.heap.size,1,none⟩=some u)/\(∃u,am.cell? ⟨w.heap.size,2,none⟩=some u)/\(∀o,am.frozen? ⟨w.heap.size,o,none⟩=false)/\At am (w.heap.size+1+1) 0 v/\
   V (MS w (fg am w.heap.size (.slice U m1 af) (h0 aC (vs.length+1) cap') (.slice aa m3 ah)) U m1 af aa m3 ah (vs++[u]) v base R (some aC) (some ⟨aC,0,none⟩) cap'):=by
 have F:=h.g.keep k;obtain⟨ay,aB⟩:=h.g.put k own s;have hb:=s.chg.block _ F.lt (by rintro (c|c);exact c;exact h.g.ne c);have e:∀o,_:=λo=>World.cell?_of_block (a:=⟨w.heap.size,o,none⟩) hb;have x:∀o,_:=λo=>World.frozen?_of_block (a:=⟨w.heap.size,o,none⟩) hb
 have aN:At am (w.heap.size+1+1) 0 v:=by
  have ai:=yak h.lt k.size;have bv:∀o,_:=λo=>s.chg.cell (p:=⟨_,o,none⟩) ai (by rintro (c|c);exact c;exact h.n2 c);obtain⟨aP,ay,aB,bz,a0,cf⟩:=h.v.keep h.lt k yaa;exact⟨by grind,by grind,by grind,by grind,by grind,by grind⟩
 exact⟨⟨_,(e 0).trans F.c0⟩,⟨_,(e 1).trans F.c1⟩,⟨_,(e 2).trans F.c2⟩,λo=>by rw[x];exact F.free o,aN,ay,h.b.stq aB xaa h.n1,h.v.stq h.lt aB xaa h.n2,yak h.lt aB.chg.size,
  λc=>aB.far (Nat.lt_trans yaf h.lt) h.n1 (by simpa using c),λc=>aB.far h.lt h.n2 (by simpa using c),h.s.seq aB (λi hi c=>by omega)⟩
theorem MS.call{W v}(h:MS w W U m1 af aa m3 ah vs v base R R' J cap)(k:Kept 0 0 W ax)(u)(ag:vs.length<=1000000):
  Calls prog 78 #[eX U m1 af J vs.length cap aa m3 ah,u.agg] ax λe am=>∃aC cap',e=.returned (eX U m1 af (some ⟨aC,0,none⟩) (vs.length+1) cap' aa m3 ah)/\
   (∃u,am.cell? ⟨w.heap.size,0,none⟩=some u)/\(∃u,am.cell? ⟨w.heap.size,1,none⟩=some u)/\(∃u,am.cell? ⟨w.heap.size,2,none⟩=some u)/\(∀o,am.frozen? ⟨w.heap.size,o,none⟩=false)/\At am (w.heap.size+1+1) 0 v/\
   V (MS w (fg am w.heap.size (.slice U m1 af) (h0 aC (vs.length+1) cap') (.slice aa m3 ah)) U m1 af aa m3 ah (vs++[u]) v base R (some aC) (some ⟨aC,0,none⟩) cap'):=by
 have F:=h.g.keep k;refine(sj _ _ _ _ _ _ _ _ _ _ _ u F.own F.sz ag).mono ?_;exact xhv
theorem MS.orNone{W v}(h:MS w W U m1 af aa m3 ah vs v base R R' J cap)(k:Kept 0 0 W ax)(a n)(az:a<0)(ag:vs.length<=900000):
  Calls prog 141 #[eX U m1 af J vs.length cap aa m3 ah,h1 a,h1 n] ax λe am=>∃aC cap',e=.returned (.tuple #[eX U m1 af (some ⟨aC,0,none⟩) (vs.length+1) cap' aa m3 ah,h1 (vs.length:Nat)])/\
   (∃u,am.cell? ⟨w.heap.size,0,none⟩=some u)/\(∃u,am.cell? ⟨w.heap.size,1,none⟩=some u)/\(∃u,am.cell? ⟨w.heap.size,2,none⟩=some u)/\(∀o,am.frozen? ⟨w.heap.size,o,none⟩=false)/\At am (w.heap.size+1+1) 0 v/\
   V (MS w (fg am w.heap.size (.slice U m1 af) (h0 aC (vs.length+1) cap') (.slice aa m3 ah)) U m1 af aa m3 ah (vs++[eJ 1 n 0 0 0]) v base R (some aC) (some ⟨aC,0,none⟩) cap'):=by
 have F:=h.g.keep k;refine(DQ _ _ _ _ _ _ _ _ _ _ _ a n F.own F.sz ag az).mono ?_;exact xhv
theorem MS.orSome{W v}(h:MS w W U m1 af aa m3 ah vs v base R R' J cap)(k:Kept 0 0 W ax)(a n)(az:0<=a):
  Calls prog 141 #[eX U m1 af J vs.length cap aa m3 ah,h1 a,h1 n] ax λe am=>e=.returned (.tuple #[eX U m1 af J vs.length cap aa m3 ah,h1 a])/\
   (∃u,am.cell? ⟨w.heap.size,0,none⟩=some u)/\(∃u,am.cell? ⟨w.heap.size,1,none⟩=some u)/\(∃u,am.cell? ⟨w.heap.size,2,none⟩=some u)/\(∀o,am.frozen? ⟨w.heap.size,o,none⟩=false)/\At am (w.heap.size+1+1) 0 v/\
   V (MS w (fg am w.heap.size (.slice U m1 af) (.slice J vs.length cap) (.slice aa m3 ah)) U m1 af aa m3 ah vs v base R R' J cap):=by
 refine(DP _ _ _ _ _ _ _ _ _ _ a n az).mono ?_;rintro e am ⟨rfl,av⟩;have h2:=h.keep (k.trans av);have aX:=fk am w.heap.size (.slice U m1 af) (.slice J vs.length cap) (.slice aa m3 ah);obtain⟨bh,aJ,y2⟩:=fd _ _ _ _ _ h2.g.c0 h2.g.c1 h2.g.c2 (.slice U m1 af) (.slice J vs.length cap) (.slice aa m3 ah);have d:(Value.slice J vs.length cap).ownBlock≠some w.heap.size:=i1 h2.g.row h2.g.ne
 have ck:∀I o,I≠w.heap.size->I<am.heap.size->(fg am _ _ _ _).cell? _=am.cell? ⟨I,o,none⟩:=λI o a7 ai=>aX.cell ai (by grind);have x:∀I o,I≠w.heap.size->I<am.heap.size->(fg am _ _ _ _).frozen? _=am.frozen? ⟨I,o,none⟩:=λI o a7 ai=>aX.frozen ai (by grind);obtain⟨aN,bl,aS,a9,bF,bB,bG⟩:=h2.b;obtain⟨aw,ba,bb,bc,bo,aF⟩:=h2.v
 refine⟨rfl,⟨_,h2.g.c0⟩,⟨_,h2.g.c1⟩,⟨_,h2.g.c2⟩,h2.g.free,h2.v,⟨yak h2.g.lt aX.size,λo=>?_,bh,aJ,y2,eI (eI (eI h2.g.own d) d) d,h2.g.row,h2.g.ne,yao h2.g.sz aX.size⟩,
  ⟨yak aN aX.size,by grind,by grind,by grind,by grind,by grind,by grind⟩,
  ⟨by rw[ck _ _ xaa h2.lt];exact aw,by rw[ck _ _ xaa h2.lt];exact ba,by rw[ck _ _ xaa h2.lt];exact bb,by rw[ck _ _ xaa h2.lt];exact bc,by rw[ck _ _ xaa h2.lt];exact bo,by rw[ck _ _ xaa h2.lt];exact aF⟩,yak h2.lt aX.size,h2.n1,h2.n2,h2.s.new aX yad⟩
 unfold fg;simp[h2.g.free o]
theorem MS.fin{W vs0 v M}(h:MS w W U m1 af aa m3 ah vs v base R R' J cap)(k:Kept 0 0 W H)(aN:vs=vs0++M.1):
  MvP w U m1 af aa m3 ah vs0 base R M (.returned (.tuple #[eX U m1 af J vs.length cap aa m3 ah,h1 M.2])) (fg H (w.heap.size+1) (.slice U m1 af) (.slice J vs.length cap) (.slice aa m3 ah)):=by
 exact xeh
end
section
def pM(n:Nat):Code->Option Code
 |.region i ops d=>if i=n then some (.region i ops d)else none
 |.seq a b=>match pM n a with
  |some c=>some c
  |none=>pM n b
 |.cond _ a b=>match pM n a with
  |some c=>some c
  |none=>pM n b
 |.block _ c=>pM n c
 |.scope c=>pM n c
 |.loop c=>pM n c
 |_=>none
noncomputable def Q9 (n:Nat):Code:=(Tryz.f140.body.bind (pM n)).getD .skip
theorem fh{P}{c:Code}{K Q a w}(h:c.wp P (Exit.then K λ_ _ _=>False) a w):c.wp P (Exit.then K Q) a w:=by
 exact xin
variable{w W:World}{U aa J:Option Addr}{m1 af cap m3 ah base a0 i:Nat}{vs:List Vl}{v:Vl}{N:Int}{R R':Option Nat}
structure MvH(w:World)(cap base g2 i:Nat)(vs:List Vl)(v:Vl):Prop where
 h:w.ownsRow base 86 6 (.slice (some ⟨g2,0,none⟩) vs.length cap) vs.length (fN vs)
 hb:base<=w.heap.size
 hn:vs.length<=800000
 hi:i<vs.length
 hv:At w g2 (i*6) v
theorem MvH.op(ad:MvH w cap base a0 i vs v)(U aa m1 af m3 ah):At w a0 (i*6) v/\0<=(i:Int)/\(i:Int)<vs.length/\a0<w.heap.size/\∃t,
  V (((w.alloc (fx U m1 af (some ⟨a0,0,none⟩) vs.length cap aa m3 ah)).alloc fH).alloc (fW v.op v.len v.a v.b v.c v.k)=t)/\vs.length<=800000/\V (MS w t U m1 af aa m3 ah vs v base (some a0) (some a0) (some ⟨a0,0,none⟩) cap)/\V (w.ownsRow base 86 6 (h0 a0 vs.length cap) vs.length (fN vs)):=
 ⟨ad.hv,by omega,ix ad.hi,(eG ad.h (k:=a0) rfl).2,_,rfl,ad.hn,MS.start v ad.h ad.hb,ad.h⟩
theorem MS.lst(h:MS w W U m1 af aa m3 ah vs v base R R' J cap)(ag:vs.length<=1000000)(bI:(vs.length:Int)-1=N):Calls prog 85 #[eX U m1 af J vs.length cap aa m3 ah] W λe B=>e=.returned (h1 N)/\V (MS w B U m1 af aa m3 ah vs v base R R' J cap):=
 (iY W U J aa m1 af vs.length cap m3 ah ag).mono λ_ _ q=>⟨bI ▸ q.1,h.keep q.2⟩
def MpR(w:World)(b1:Option Addr)(m1 e1:Nat)(b3:Option Addr)(m3 e3:Nat)(vs:List Vl)(v:Vl)(base:Nat)(R:Option Nat)(x:Vl)(W':World):Prop:=
 ∃us g' cap',V (us=vs++[x]/\us.length=vs.length+1)/\us.length<=vs.length+1/\V (MS w W' b1 m1 e1 b3 m3 e3 us v base R (some g') (some ⟨g',0,none⟩) cap')
def MfK(R:World->Prop)(p0 p1 p2 p3 p4 p5 p6 p7 p8 p9 p10 p12 p13 p14 p15 p16 p17 p18 p19 q11:Value)(K:Act->World->Prop):Prop:=∀{a b c d e f g h i j k l m n o p q r s t u v w x y z A B C D E F G H I J L M N O P Q S T U Vaa W X Y Z aa ab ad ae af ag ah ai aj ak al am an ao ap aq ar au av aw ax ay az aA aB aC aD aE aF aG aH aI aJ aK aL aM aN aO aP aQ aR aS aT aU aV aW aX aY aZ a0 a1 a2 a3 a4 a5 a6 a7 a8 a9 ba bb bc bd be bf bg bh bi bj bk bl bm bn bo bp bq br bs bt bu bv bw bx bz bA bB bC bD bE bF bG bH bI bJ bK bL bM bN bO bP bQ bR bS bT bU bV bW bX bY bZ b0 b1 b2 b3 b4 b5 b6 b7 b8 b9 ca cb cc cd ce cf cg ch ci cj ck cl cm cn co cp cq cr cs ct cu cv cw cx cy cz cA cB cC cD cE cF cG cH cI cJ cK cL cM cN cO cP cQ cR cS cT cU cV cW cX cY cZ c0 c1 c2 c3 c4 c5 c6 c7 c8 c9 da db dc dd de df:Value} (W':World),R W'->K ⟨#[p0,p1,p2,p3,p4,p5,p6,p7,p8,p9,p10,q11,p12,p13,p14,p15,p16,p17,p18,p19,a,b,c,d,e,f,g,h,i,j,k,l,m,n,o,p,q,r,s,t,u,v,w,x,y,z,A,B,C,D,E,F,G,H,I,J,L,M,N,O,P,Q,S,T,U,Vaa,W,X,Y,Z,aa,ab,ad,ae,af,ag,ah,ai,aj,ak,al,am,an,ao,ap,aq,ar,au,av,aw,ax,ay,az,aA,aB,aC,aD,aE,aF,aG,aH,aI,aJ,aK,aL,aM,aN,aO,aP,aQ,aR,aS,aT,aU,aV,aW,aX,aY,aZ,a0,a1,a2,a3,a4,a5,a6,a7,a8,a9,ba,bb,bc,bd,be,bf,bg,bh,bi,bj,bk,bl,bm,bn,bo,bp,bq,br,bs,bt,bu,bv,bw,bx,bz,bA,bB,bC,bD,bE,bF,bG,bH,bI,bJ,bK,bL,bM,bN,bO,bP,bQ,bR,bS,bT,bU,bV,bW,bX,bY,bZ,b0,b1,b2,b3,b4,b5,b6,b7,b8,b9,ca,cb,cc,cd,ce,cf,cg,ch,ci,cj,ck,cl,cm,cn,co,cp,cq,cr,cs,ct,cu,cv,cw,cx,cy,cz,cA,cB,cC,cD,cE,cF,cG,cH,cI,cJ,cK,cL,cM,cN,cO,cP,cQ,cR,cS,cT,cU,cV,cW,cX,cY,cZ,c0,c1,c2,c3,c4,c5,c6,c7,c8,c9,da,db,dc,dd,de,df],[]⟩ W'
def MfC(n:Nat)(W:World)(R:World->Prop)(a b c d e f g h i j k u l m o p q r s t v:Value):Prop:=
 ∀{K:Act->World->Prop}{w x y z A B C D E F G H I J L M N O P Q S T U Vaa X Y Z aa ab ad ae af ag ah ai aj ak al am an ao ap aq ar au av aw ax ay az aA aB aC aD aE aF aG aH aI aJ aK aL aM aN aO aP aQ aR aS aT aU aV aW aX aY aZ a0 a1 a2 a3 a4 a5 a6 a7 a8 a9 ba bb bc bd be bf bg bh bi bj bk bl bm bn bo bp bq br bs bt bu bv bw bx bz bA bB bC bD bE bF bG bH bI bJ bK bL bM bN bO bP bQ bR bS bT bU bV bW bX bY bZ b0 b1 b2 b3 b4 b5 b6 b7 b8 b9 ca cb cc cd ce cf cg ch ci cj ck cl cm cn co cp cq cr cs ct cu cv cw cx cy cz cA cB cC cD cE cF cG cH cI cJ cK cL cM cN cO cP cQ cR cS cT cU cV cW cX cY cZ c0 c1 c2 c3 c4 c5 c6 c7 c8 c9 da db dc dd de df dg dh di dj dk dl dm dn dp dq dr ds dt du dv dw dx dy dz dA dB dC dD:Value},MfK R a b c d e f g h i j k l m o p q r s t v K->Code.wp prog (Q9 n) (Exit.then K λ_ _ _=>False) ⟨#[a,b,c,d,e,f,g,h,i,j,k,u,l,m,o,p,q,r,s,t,w,x,y,z,A,B,C,D,E,F,G,H,I,J,L,M,N,O,P,Q,S,T,U,Vaa,X,Y,Z,aa,ab,ad,ae,af,ag,ah,ai,aj,ak,al,am,an,ao,ap,aq,ar,au,av,aw,ax,ay,az,aA,aB,aC,aD,aE,aF,aG,aH,aI,aJ,aK,aL,aM,aN,aO,aP,aQ,aR,aS,aT,aU,aV,aW,aX,aY,aZ,a0,a1,a2,a3,a4,a5,a6,a7,a8,a9,ba,bb,bc,bd,be,bf,bg,bh,bi,bj,bk,bl,bm,bn,bo,bp,bq,br,bs,bt,bu,bv,bw,bx,bz,bA,bB,bC,bD,bE,bF,bG,bH,bI,bJ,bK,bL,bM,bN,bO,bP,bQ,bR,bS,bT,bU,bV,bW,bX,bY,bZ,b0,b1,b2,b3,b4,b5,b6,b7,b8,b9,ca,cb,cc,cd,ce,cf,cg,ch,ci,cj,ck,cl,cm,cn,co,cp,cq,cr,cs,ct,cu,cv,cw,cx,cy,cz,cA,cB,cC,cD,cE,cF,cG,cH,cI,cJ,cK,cL,cM,cN,cO,cP,cQ,cR,cS,cT,cU,cV,cW,cX,cY,cZ,c0,c1,c2,c3,c4,c5,c6,c7,c8,c9,da,db,dc,dd,de,df,dg,dh,di,dj,dk,dl,dm,dn,dp,dq,dr,ds,dt,du,dv,dw,dx,dy,dz,dA,dB,dC,dD],[]⟩ W
end
section
attribute[local go_sem] eE eD eC
variable{U aa J:Option Addr}{m1 af m3 ah base cap bD:Nat}{vs:List Vl}{o a5 bj X bz:Int}{R R':Option Nat}{c0 c1 c2 c4 cd ce b2 bp bY bU co cu cq:Value}
theorem Gu{w W C cg cl cn}(Y:V (MS w W U m1 af aa m3 ah vs ⟨o,a5,bj,X,bz,bD⟩ base R R' J cap))(bM:vs.length<=900000):MfC 20 W (MpR w U m1 af aa m3 ah vs ⟨o,a5,bj,X,bz,bD⟩ base R (eJ 4 a5 bj C 0)) c0 c1 c2 (h1 C) c4 (hZ w.heap.size) cd ce b2 bp bY bU (hZ (w.heap.size+1+1)) (h1 a5) co cu cq cg cl cn bU:=by
 unfold MfC;intros;rename_i HK;have bf:V (∀ax,Kept 0 0 W ax->_):=λax k=>MS.call Y.o k (eJ 4 a5 bj C 0) xaa;have aY:=Y.o.g.c0;have ar:=Y.o.g.c1;have aW:=Y.o.g.c2;have bb:=Y.o.v.c2;exact xad
theorem xP{w W p q d c3}(Y:V (MS w W U m1 af aa m3 ah vs ⟨o,a5,bj,X,bz,bD⟩ base R R' J cap))(bM:vs.length<=900000):MfC 52 W (MpR w U m1 af aa m3 ah vs ⟨o,a5,bj,X,bz,bD⟩ base R (eJ 8 a5 d p q)) c0 c1 c2 c3 c4 (hZ w.heap.size) cd ce b2 bp bY bU (hZ (w.heap.size+1+1)) (h1 a5) co cu cq (h1 p) (h1 q) (h1 d) bU:=by
 unfold MfC;intros;rename_i HK;have bf:V (∀ax,Kept 0 0 W ax->_):=λax k=>MS.call Y.o k (eJ 8 a5 d p q) xaa;exact xae
