import Derived.Test.YtcjhlkdleojbjaaGreatP09
namespace Go.Proofs.Z
open Tryz Go.RowKit Flt
set_option maxRecDepth 1000000
set_option maxHeartbeats 0
section
attribute[local go_sem] eF eE eD
variable{q k p P m1 l ae m3 ai base aq cap cap':Nat}{Q:Nat->Prop}{w aA I az ag B aJ:World}{r:Int}{y u:Vl}{R aa U:Option Addr}{H R':Option Nat}{vs:List Vl}
def mvM(i:Int)(v:Vl)(ta tb tc:Int)(N:Nat):List Vl×Int:=
 if ta=-1/\tb=-1/\tc=-1 then ([],-1)
 else if v.op=2 then yJ v.len ta tb N
 else if v.op=3 then yK v.len ta tb N
 else if v.op=4 then yL v ta tb N
 else if v.op=5 then yM i v ta tb N
 else if v.op=7 then ([eK 3 v.len v.a v.b 0]++(chM v.len N ta tb (N+1)).1,(chM v.len N ta tb (N+1)).2)
 else if v.op=8 then (if tb=-1/\tc=-1 then ([],-1)else chM v.len v.a tb tc N)
 else if v.op=13 then ([eK 4 v.len ta i 0],(N:Int))
 else ([eK v.op v.len ta 0 v.c],(N:Int))
def ovs(v:Vl)(mv:List Int)(q j:Nat):Int:=if j<q then mv.getD (fld v j).toNat 0 else -1
theorem DF(v)(ap:q<cnt v.op):(fe v).getD q 0=[v.a,v.b,v.c].getD q 0:=by
 simp_all[fe]
theorem J8(v)(ap:q<3):fld v q=[v.a,v.b,v.c].getD q 0:=by
 rcases (by omega:q=0\/q=1\/q=2) with rfl|rfl|rfl<;>rfl
theorem two{b c}(h:¬(b=-1/\c=-1)):((b==-1)=false)\/((b==-1)=true/\(c==-1)=false):=by
 grind
def kY(k n:Nat):List Int:=List.replicate k (-1)++List.replicate (n-k) 0
theorem vo(k n)(h:k<=n):(kY k n).length=n:=by simp[kY];omega
theorem vp(n):kY n n=List.replicate n (-1):=by simp[kY]
theorem vq{n}(h:k<n):(kY k n).set k (-1)=kY (k+1) n:=by
 apply List.ext_getElem?;intro j;unfold kY;grind
def jmv(vs0:List Vl)(i:Nat)(st:List Vl×List Int):List Vl×Int:=
 mvM (i:Int) (vs0.getD i hF) (ovs (vs0.getD i hF) st.2 (cnt (vs0.getD i hF).op) 0) (ovs (vs0.getD i hF) st.2 (cnt (vs0.getD i hF).op) 1) (ovs (vs0.getD i hF) st.2 (cnt (vs0.getD i hF).op) 2) st.1.length
def jst(vs0:List Vl)(x t:Nat):Nat->List Vl×List Int
 |0=>(vs0,(List.replicate vs0.length (-1)).set x (t:Int))
 |k+1=>((jst vs0 x t k).1++(jmv vs0 (x+1+k) (jst vs0 x t k)).1,(jst vs0 x t k).2.set (x+1+k) (jmv vs0 (x+1+k) (jst vs0 x t k)).2)
theorem xe(vs0 x t):∀k,(jst vs0 x t k).2.length=vs0.length
 |0=>by simp[jst]
 |k+1=>by simp[jst,xe vs0 x t k]
theorem xg(vs0 x t):∀k,∃r,(jst vs0 x t k).1=vs0++r
 |0=>⟨[],by simp[jst]⟩
 |k+1=>by
  obtain⟨r,h⟩:=xg vs0 x t k
  grind[jst]
theorem Cf(vs0 x t k){i}(hi:i<vs0.length):(jst vs0 x t k).1.getD i hF=vs0.getD i hF:=by
 obtain⟨r,h⟩:=xg vs0 x t k;grind
def Sz(k:Nat)(M:List Vl×Int):Prop:=M.1.length<=k/\0<=eU M.1/\eU M.1<=1000*(k:Int)
theorem iM{p}[Decidable p]{a b}(ar:Sz k a)(hb:Sz k b):Sz k (if p then a else b):=by
 grind
theorem Ba:Sz k ([],r):=by grind[Sz,eU]
theorem xh{v}(O:1<=k)(al:0<=v.len)(F:v.len<=1000):Sz k ([v],r):=by grind[Sz,eU]
theorem Pz{v}(O:2<=k)(al:0<=v.len)(F:v.len<=1000)(N:0<=u.len)(h3:u.len<=1000):Sz k ([v,u],r):=by grind[Sz,eU]
theorem NG{v}(O:3<=k)(al:0<=v.len)(F:v.len<=1000)(N:0<=u.len)(h3:u.len<=1000)(a6:0<=y.len)(bF:y.len<=1000):Sz k ([v,u,y],r):=by grind[Sz,eU]
theorem Qs{v z}(O:4<=k)(al:0<=v.len)(F:v.len<=1000)(N:0<=u.len)(h3:u.len<=1000)(a6:0<=y.len)(bF:y.len<=1000)(bp:0<=z.len)(aj:z.len<=1000):Sz k ([v,u,y,z],r):=by grind[Sz,eU]
theorem J9{v M}(h:Sz k M)(al:0<=v.len)(F:v.len<=1000):Sz (k+1) ([v]++M.1,r):=by
 unfold Sz at*;grind[eU]
theorem MT{n d p q aV}(al:0<=n)(F:n<=1000):Sz 3 (chM n d p q aV):=by
 unfold chM;exact iM (iM (NG xaa al F al F al F) (Pz xaa al F al F)) (iM (Pz xaa al F al F) (xh xaa al F))
theorem Ka{M}(h:Sz k M)(O:k<=l):Sz l M:=by
 unfold Sz at*;omega
theorem GA(i v aI ak aW aV)(al:0<=v.len)(F:v.len<=1000):Sz 4 (mvM i v aI ak aW aV):=by
 unfold mvM yJ yK yL yM
 exact iM Ba (iM (iM Ba (iM Ba (xh xaa al F))) (iM (iM Ba (iM (xh xaa al F) (xh xaa al F)))
  (iM (iM (iM Ba (xh xaa al F)) (iM (xh xaa al F) (NG xaa al F al F al F)))
  (iM (iM (iM Ba (NG xaa al F al F al F)) (iM (xh xaa al F) (Qs xaa al F al F al F al F)))
  (iM (J9 (MT al F) al F) (iM (iM Ba (Ka (MT al F) xaa)) (iM (xh xaa al F) (xh xaa al F))))))))
theorem tK(vs0 x t)(af:∀k,k<vs0.length->1<=(vs0.getD k hF).len/\(vs0.getD k hF).len<=1000)(bP:0<=eU vs0)(X:eU vs0<=50000):∀k,x+k<vs0.length->(jst vs0 x t k).1.length<=vs0.length+4*k/\0<=eU (jst vs0 x t k).1/\eU (jst vs0 x t k).1<=50000+4000*k
 |0,_=>by simp[jst];omega
 |k+1,O=>by
  have G:=tK _ x t af bP X k xaa
  have aO:=af (x+1+k) xaa
  have am:=GA (x+1+k:Nat) (vs0.getD (x+1+k) hF) (ovs (vs0.getD (x+1+k) hF) (jst vs0 x t k).2 (cnt (vs0.getD (x+1+k) hF).op) 0) (ovs (vs0.getD (x+1+k) hF) (jst vs0 x t k).2 (cnt (vs0.getD (x+1+k) hF).op) 1) (ovs (vs0.getD (x+1+k) hF) (jst vs0 x t k).2 (cnt (vs0.getD (x+1+k) hF).op) 2) (jst vs0 x t k).1.length xaa xaa
  rw[jst]
  simp only[yal,sX]
  unfold jmv
  unfold Sz at am
  omega
def jH(vs0:List Vl)(s x t:Nat):List Vl×Int:=
 if (jst vs0 x t (s-x)).2.getD s 0=-1 then ((jst vs0 x t (s-x)).1++[eK 1 (vs0.getD s hF).len 0 0 0],((jst vs0 x t (s-x)).1.length:Nat))else ((jst vs0 x t (s-x)).1,(jst vs0 x t (s-x)).2.getD s 0)
theorem mG:∀(vs:List Vl),(∀j,j<vs.length->0<=(vs.getD j hF).len)->0<=eU vs
 |[],_=>by simp[eU]
 |v::r,h=>by
  have al:=h 0 xac
  have F:=mG r (λj hj=>h (j+1) yag)
  have e:(v::r).getD 0 hF=v:=rfl
  rw[e]at al
  simp only[eU]
  omega
theorem mn{ins}(ok:okV ins vs k=true):∀q,q<cnt (vs.getD k hF).op->0<=fld (vs.getD k hF) q/\fld (vs.getD k hF) q<k:=λq ap=>by
 by_cases al:(vs.getD k hF).op=0
 ·grind[cnt]
 ·unfold okV at ok
  rw[hC al]at ok
  simp only[Bool.and_eq_true]at ok
  have h:=List.all_eq_true.1 ok.2.1 _ (oP (by rw[oO];exact ap))
  have N:=of_decide_eq_true h
  grind[DF,J8,fI]
def jY(vs:List Vl):Bool:=decide (2000<vs.length\/50000<eU vs)
theorem ij(w op n a b c):Calls prog 46 #[hA op,hA n,hA a,hA b,hA c] w λe B=>e=.returned (eK op n a b c).agg/\Kept 0 0 w B:=by
 go_enter func46,ntmps46;go_wp2_with fail;refine yaz (v:=(eK op n a b c).agg) (by simp[results,results46,go_sem]) rfl ⟨rfl,ez 0 0 w _⟩
theorem oT(w n):Calls prog 71 #[hA n] w λe B=>e=.returned (eK 1 n 0 0 0).agg/\Kept 0 0 w B:=by
 go_enter func71,ntmps71;go_wp2_with fail;refine yaz (v:=(eK 1 n 0 0 0).agg) (by simp[results,results71,go_sem]) rfl ⟨rfl,ez 0 0 w _⟩
theorem jO(w a1 U a3 Z c1 n2 c2 ab c3)(ad:n2<=1000000):Calls prog 47 #[eZ a1 Z c1 U n2 c2 a3 ab c3] w λe B=>e=.returned (hA ((n2:Int)-1))/\Kept 0 0 w B:=by
 go_enter func47,ntmps47;go_wp2;go_ret;exact⟨rfl,ez 0 0 w _⟩
theorem Kc{bj cW v o}(_h:w.ownsRow base 62 6 cW vs.length (fF vs))(k:Kept 0 0 w aA)
  (bF:bj.ownsRow base 62 6 (hz aq (vs.length+1) cap') (vs.length+1) (fF vs++v.cells)) (aW:(aA.alloc o).grownBy bj cW.ownBlock) (a7:cW.ownBlock=some aq\/aq=(aA.alloc o).heap.size):
  bj.ownsRow base 62 6 (hz aq (vs.length+1) cap') (vs.length+1) (fF (vs++[v]))/\StQ (λ_=>False) cW.ownBlock w (some aq) bj:=by
 refine⟨by rw[mf,qb];exact bF,⟨aW.os.trans k.os,aW.tape.trans k.tape,aW.output.trans k.output,?_,λi hi ad=>?_⟩,?_⟩
 ·have F:=aW.size;have N:=k.size;simp at F;omega
 ·have N:=k.size;rw[aW.block i yag (λc=>ad (.inr c.symm)),Below.heap_alloc _ o i xaa];exact k.block i hi xaa
 rcases a7 with e|e
 ·grind
 have N:=k.size;exact .inr ⟨_,rfl,by rw[e];simp;omega⟩
theorem StQ.new{h}(s:StQ Q H w R' B)(k:Kept l h B aJ)(af:w.heap.size<=l):StQ Q H w R' aJ:=
 ⟨⟨k.os.trans s.chg.os,k.tape.trans s.chg.tape,k.output.trans s.chg.output,yao s.chg.size k.size,λi hi ad=>by
   rw[k.block i (yak hi s.chg.size) xaa]
   exact s.chg.block i hi ad⟩,s.row⟩
theorem rP(w R U aa m1 ae cap m3 ai base vs v)(h:w.ownsRow base 62 6 (.slice U vs.length cap) vs.length (fF vs))(hb:base<=w.heap.size)(ad:vs.length<=1000000):
  Calls prog 44 #[eZ R m1 ae U vs.length cap aa m3 ai,v.agg] w λe B=>∃aq cap',e=.returned (eZ R m1 ae (some ⟨aq,0,none⟩) (vs.length+1) cap' aa m3 ai)/\B.ownsRow base 62 6 (hz aq (vs.length+1) cap') (vs.length+1) (fF (vs++[v]))/\StQ (λ_=>False) (Value.slice U vs.length cap).ownBlock w (some aq) B:=by
 obtain⟨bW,hi,b4,b3,b0⟩:=info_parts yz;have aw:=ez 0 0 w (e9 R m1 ae U vs.length cap aa m3 ai);have ak:=ez 0 0 (w.alloc (e9 R m1 ae U vs.length cap aa m3 ai)) (fH v.op v.len v.a v.b v.c v.k);have aR:=ez 0 0 ((w.alloc (e9 R m1 ae U vs.length cap aa m3 ai)).alloc (fH v.op v.len v.a v.b v.c v.k)) fJ;have bg:=((fB w (.slice R m1 ae) (.slice U vs.length cap) (.slice aa m3 ai)).keep ak).keep aR
 have i:∀o,(((w.alloc (e9 R m1 ae U vs.length cap aa m3 ai)).alloc (fH v.op v.len v.a v.b v.c v.k)).alloc fJ).frozen? ⟨w.heap.size,o,none⟩=false:=λo=>by
  rw[(ak.trans aR).frozen (p:=⟨w.heap.size,o,none⟩) xac xaa]
  simp
 have bO:=(i9 (w.alloc (e9 R m1 ae U vs.length cap aa m3 ai)) v).keep xac aR yaa;have bC:=iN ((w.alloc (e9 R m1 ae U vs.length cap aa m3 ai)).alloc (fH v.op v.len v.a v.b v.c v.k));rw[show((w.alloc (e9 R m1 ae U vs.length cap aa m3 ai)).alloc (fH v.op v.len v.a v.b v.c v.k)).heap.size=w.heap.size+1+1 by simp]at bC;rw[show(w.alloc (e9 R m1 ae U vs.length cap aa m3 ai)).heap.size=w.heap.size+1 by simp]at bO;have O:=(aw.trans ak).trans aR;have a6:=eO h O;have bq:E _:=h;have HK:E _:=O;have bm:E _:=bC;have be:E _:=bg;have ct:E _:=i;obtain⟨_,bK,bu,p2⟩:=bg;obtain⟨aD,a5,a7,z,G,F⟩:=bO;have cQ:=yao hb O.size;clear aw ak aR i bC O h;go_enter func44,ntmps44;go_wp2_with (first|(at_builtin;refine wpList_append_lies _ rfl _ _ 24 rfl base 62 bW (lN 0 0 0 0 0 0) 6 48 underlying24 hi b4 b3 b0 rfl xab _ _ (fF vs) rfl (a6.alloc _) ⟨w.heap.size+1+1+1,0,none⟩ 1 1 v.cells rfl rfl ?c1 ?c2 xab ?c3 ?c4 ?c5 _ rfl ?_))
 case c1=>
  have bp:=B7 (((w.alloc (e9 R m1 ae U vs.length cap aa m3 ai)).alloc (fH v.op v.len v.a v.b v.c v.k)).alloc fJ) v 0;rw[show(((w.alloc (e9 R m1 ae U vs.length cap aa m3 ai)).alloc (fH v.op v.len v.a v.b v.c v.k)).alloc fJ).heap.size=w.heap.size+1+1+1 by simp]at bp;exact bp
 case c2=>exact FK v
 case c3=>unfold maxLen;omega
 case c4=>omega
 case c5=>simp;omega
 intro g9 cap9 bj bF aW bT cz;have g:(((w.alloc (e9 R m1 ae U vs.length cap aa m3 ai)).alloc (fH v.op v.len v.a v.b v.c v.k)).alloc fJ).heap.size=w.heap.size+1+1+1:=by simp
 have bQ:(Value.slice U vs.length cap).ownBlock=some g9\/g9=((((w.alloc (e9 R m1 ae U vs.length cap aa m3 ai)).alloc (fH v.op v.len v.a v.b v.c v.k)).alloc fJ).alloc (.cells #[hA v.op,hA v.len,hA v.a,hA v.b,hA v.c,.float .f64 v.k] 62)).heap.size:=bT.imp id (λe=>by rw[e];simp);obtain⟨ay,a0⟩:=Kc (v:=v) bq.o HK.o bF aW bQ;have X:∀J,w.heap.size<=J->(Value.slice U vs.length cap).ownBlock≠some J:=λJ aT e=>hJ ((eH bq.o e).2)
 have C:g9<w.heap.size\/w.heap.size+1+1+1<g9:=by
  rcases bQ with e|e
  ·exact .inl (eH bq.o e).2
  right;rw[e];simp
 have bz:=kG (m:=0) aW (hN g) (X w.heap.size yad) bK;have bo:=kG (m:=0) aW (hN g) (X w.heap.size yad) bu;have bw:=kG (m:=0) aW (hN g) (X w.heap.size yad) p2;have x:=far2 (m:=0) aW (hN g) (X w.heap.size yad) (ct.o 1);obtain⟨_,cf,Z,n2,ci,j,b7⟩:=bm.o;have ba:=kG (m:=0) aW (hN g) (X (w.heap.size+1+1) xaa) cf;have aP:=kG (m:=0) aW (hN g) (X (w.heap.size+1+1) xaa) Z;have y2:=kG (m:=0) aW (hN g) (X (w.heap.size+1+1) xaa) n2;have bD:=far2 (m:=0) aW (hN g) (X (w.heap.size+1+1) xaa) ci;have aQ:=far2 (m:=0) aW (hN g) (X (w.heap.size+1+1) xaa) j;have a8:=far2 (m:=0) aW (hN g) (X (w.heap.size+1+1) xaa) b7;have R1:E _:=ay;have R2:E _:=a0;clear ay a0 bF aW bT bQ X a6 bq HK bm be ct bK bu p2 aD a5 a7 z G F cQ g cf Z n2 ci j b7 cz;go_wp2_with fail
 have f:∀J,(J=w.heap.size\/J=w.heap.size+1+1)->(hz g9 (vs.length+1) cap9).ownBlock≠some J:=λJ aT e=>by
  have aN:g9=J:=by simpa[Value.ownBlock] using e
  omega
 have cn:=eI (o:=2) (u:=.slice aa m3 ai) (eI (o:=1) (u:=hz g9 (vs.length+1) cap9) (eI (o:=0) (u:=.slice R m1 ae) (eI (o:=1) (u:=hz g9 (vs.length+1) cap9) R1.o (f w.heap.size (.inl rfl))) (f (w.heap.size+1+1) (.inr rfl))) (f (w.heap.size+1+1) (.inr rfl))) (f (w.heap.size+1+1) (.inr rfl));have m:(bj.setCell ⟨w.heap.size,1,none⟩ (hz g9 (vs.length+1) cap9)).cell? ⟨w.heap.size+1+1,0,none⟩=_:=(eQ _ _ _ _ _ _ (.inl xaa)).trans ba;have n:(bj.setCell ⟨w.heap.size,1,none⟩ (hz g9 (vs.length+1) cap9)).cell? ⟨w.heap.size+1+1,1,none⟩=_:=(eQ _ _ _ _ _ _ (.inl xaa)).trans aP;have s:(bj.setCell ⟨w.heap.size,1,none⟩ (hz g9 (vs.length+1) cap9)).cell? ⟨w.heap.size+1+1,2,none⟩=_:=(eQ _ _ _ _ _ _ (.inl xaa)).trans y2;obtain⟨aZ,ax,aU⟩:=fp (bj.setCell ⟨w.heap.size,1,none⟩ (hz g9 (vs.length+1) cap9)) (w.heap.size+1+1) _ _ _ m n s (.slice R m1 ae) (hz g9 (vs.length+1) cap9) (.slice aa m3 ai);have aC:=StQ.new R2.o (eR (lo:=w.heap.size) (hi:=w.heap.size+1) bj ⟨w.heap.size,1,none⟩ (hz g9 (vs.length+1) cap9) yac) yad;have aL:=StQ.new aC (ft (bj.setCell ⟨w.heap.size,1,none⟩ (hz g9 (vs.length+1) cap9)) (w.heap.size+1+1) (.slice R m1 ae) (hz g9 (vs.length+1) cap9) (.slice aa m3 ai)) xaa;refine yaz (v:=eZ R m1 ae (some ⟨g9,0,none⟩) (vs.length+1) cap9 aa m3 ai) (by simp[results,results44,go_sem,aZ,ax,aU]) rfl ⟨g9,cap9,rfl,cn,aL⟩
theorem DH(w a1 U a3 Z c1 n2 c2 ab c3 a n)(h:0<=a):
  Calls prog 143 #[eZ a1 Z c1 U n2 c2 a3 ab c3,hA a,hA n] w λe B=>e=.returned (.tuple #[eZ a1 Z c1 U n2 c2 a3 ab c3,hA a])/\Kept 0 0 w B:=by
 go_enter func143,ntmps143;go_wp2_with fail;refine yaz (v:=.tuple #[eZ a1 Z c1 U n2 c2 a3 ab c3,hA a]) (by simp[results,results143,go_sem]) rfl ⟨rfl,(ez 0 0 w _).trans (ez 0 0 _ _)⟩
structure SG(w:World)(P:Nat)(b1:Option Addr)(m1 e1:Nat)(b3:Option Addr)(m3 e3:Nat)(vs:List Vl)(base:Nat)(R:Option Nat)(a2:Option Addr)(cap:Nat):Prop where
 lt:P<w.heap.size
 free:∀o,w.frozen? ⟨P,o,none⟩=false
 c0:w.cell? ⟨P,0,none⟩=some (.slice b1 m1 e1)
 c1:w.cell? ⟨P,1,none⟩=some (.slice a2 vs.length cap)
 c2:w.cell? ⟨P,2,none⟩=some (.slice b3 m3 e3)
 own:w.ownsRow base 62 6 (.slice a2 vs.length cap) vs.length (fF vs)
 row:(Value.slice a2 vs.length cap).ownBlock=R
 ne:R≠some P
 sz:base<=w.heap.size
theorem SG.keep(h:SG w P R m1 ae aa m3 ai vs base H U cap)(k:Kept 0 0 w B):SG B P R m1 ae aa m3 ai vs base H U cap:=
 have e:∀o,B.cell? ⟨P,o,none⟩=w.cell? ⟨P,o,none⟩:=λo=>k.cell (p:=⟨P,o,none⟩) h.lt xaa
 ⟨yak h.lt k.size,λo=>by rw[k.frozen h.lt xaa];exact h.free o,hL e h.c0,hL e h.c1,hL e h.c2,eO h.own k,h.row,h.ne,yao h.sz k.size⟩
def fw(w:World)(P:Nat)(x y z:Value):World:=((w.setCell ⟨P,0,none⟩ x).setCell ⟨P,1,none⟩ y).setCell ⟨P,2,none⟩ z
theorem SG.put{v}(h:SG w P R m1 ae aa m3 ai vs base H U cap)(k:Kept 0 0 w aA)
  (own:ag.ownsRow base 62 6 (hz aq (vs.length+1) cap') (vs.length+1) (fF (vs++[v]))) (s:StQ (λ_=>False) H aA (some aq) ag):
  SG (fw ag P (.slice R m1 ae) (hz aq (vs.length+1) cap') (.slice aa m3 ai)) P R m1 ae aa m3 ai (vs++[v]) base (some aq) (some ⟨aq,0,none⟩) cap'/\StQ (λi=>i=P) H w (some aq) (fw ag P (.slice R m1 ae) (hz aq (vs.length+1) cap') (.slice aa m3 ai)):=by
 have aG:=h.lt;have bX:=k.size
 have bL:aq≠P:=by
  rcases s.row with e|⟨r,e,aD⟩
  ·exact λc=>h.ne (by rw[<-e,c])
  grind
 have hb:=s.chg.block P xaa (by rintro (c|c);exact c;exact h.ne c);have e:∀o,_:=λo=>(World.cell?_of_block hb).trans (k.cell (p:=⟨P,o,none⟩) h.lt xaa);have j:∀o,_:=λo=>(World.frozen?_of_block hb).trans (k.frozen (p:=⟨P,o,none⟩) h.lt xaa);obtain⟨ba,aP,y2⟩:=fp _ P _ _ _ ((e 0).trans h.c0) ((e 1).trans h.c1) ((e 2).trans h.c2) (.slice R m1 ae) (hz aq (vs.length+1) cap') (.slice aa m3 ai);have S:=ft ag P (.slice R m1 ae) (hz aq (vs.length+1) cap') (.slice aa m3 ai);have af:(vs++[v]).length=vs.length+1:=by simp
 have f:(hz _ (vs.length+1) cap').ownBlock≠some P:=λc=>bL (by simpa[Value.ownBlock] using c);refine⟨⟨?_,λo=>?_,ba,hL af aP,y2,?_,rfl,λc=>bL (by simpa using c),?_⟩,⟨?_,?_,?_,?_,λi hi ad=>?_⟩,?_⟩
 ·have:=S.size;have:=s.chg.size;unfold fw;omega
 ·unfold fw;simp[j o,h.free o]
 ·rw[af];exact eI (eI (eI own f) f) f
 ·have:=S.size;have:=s.chg.size;have:=h.sz;unfold fw;omega
 ·exact S.os.trans (s.chg.os.trans k.os)
 ·exact S.tape.trans (s.chg.tape.trans k.tape)
 ·exact S.output.trans (s.chg.output.trans k.output)
 ·have:=S.size;have:=s.chg.size;unfold fw;omega
 ·unfold fw;rw[S.block i (hJ s.chg.size) (λc=>ad (.inl xaa)),s.chg.block i xaa (by grind)];exact k.block i hi xaa
 rcases s.row with c|⟨r,c,aD⟩<;>grind
theorem SG.call(h:SG w P R m1 ae aa m3 ai vs base H U cap)(k:Kept 0 0 w aA)(v)(ad:vs.length<=1000000):
  Calls prog 44 #[eZ R m1 ae U vs.length cap aa m3 ai,v.agg] aA λe ag=>∃aq cap',e=.returned (eZ R m1 ae (some ⟨aq,0,none⟩) (vs.length+1) cap' aa m3 ai)/\
   (∃u,ag.cell? ⟨P,0,none⟩=some u)/\(∃u,ag.cell? ⟨P,1,none⟩=some u)/\(∃u,ag.cell? ⟨P,2,none⟩=some u)/\(∀o,ag.frozen? ⟨P,o,none⟩=false)/\
   E (SG (fw ag P (.slice R m1 ae) (hz aq (vs.length+1) cap') (.slice aa m3 ai)) P R m1 ae aa m3 ai (vs++[v]) base (some aq) (some ⟨aq,0,none⟩) cap'/\StQ (λi=>i=P) H w (some aq) (fw ag P (.slice R m1 ae) (hz aq (vs.length+1) cap') (.slice aa m3 ai))):=by
 have F:=h.keep k;refine(rP _ _ _ _ _ _ _ _ _ _ _ v F.own F.sz ad).mono ?_;rintro e ag ⟨aq,cap',rfl,own,s⟩;rw[h.row]at s;have hb:=s.chg.block P F.lt (by rintro (c|c);exact c;exact h.ne c);have e:∀o,_:=λo=>World.cell?_of_block (a:=⟨P,o,none⟩) hb;have j:∀o,_:=λo=>World.frozen?_of_block (a:=⟨P,o,none⟩) hb;exact⟨_,_,rfl,⟨_,(e 0).trans F.c0⟩,⟨_,(e 1).trans F.c1⟩,⟨_,(e 2).trans F.c2⟩,λo=>by rw[j];exact F.free o,h.put k own s⟩
theorem RB.stq{W bE R aS}(t:RB W p bE R aS)(s:StQ (λi=>i=P) H W R' I)(aM:p≠P)(K:H≠some p):RB I p bE R aS:=by
 have ad:¬((λi=>i=P) p\/H=some p):=by grind
 have e:∀o,_:=λo=>s.chg.cell (p:=⟨p,o,none⟩) t.sz ad;have f:∀o,_:=λo=>s.chg.frozen (p:=⟨p,o,none⟩) t.sz ad;exact⟨yak t.sz s.chg.size,hL e t.q0,hL e t.q1,hL e t.q2,hL f t.f0,hL f t.f1,hL f t.f2⟩
theorem StQ.keepQ(s:StQ Q H w R' B)(k:Kept 0 0 B aJ):StQ Q H w R' aJ:=s.new (l:=w.heap.size) (h:=w.heap.size) (k.mono λ_ _ c=>by omega) yad
theorem StQ.drop{X}(s:StQ (λi=>i=P) H X R' I)(k:Kept 0 0 w X)(hP:w.heap.size<=P):StQ (λ_=>False) H w R' I:=
 ⟨⟨s.chg.os.trans k.os,s.chg.tape.trans k.tape,s.chg.output.trans k.output,yao k.size s.chg.size,λi hi ad=>by
   rw[s.chg.block i (yak hi k.size) (by grind)]
   exact k.block i hi xaa⟩,by
   rcases s.row with c|⟨r,c,aD⟩
   ·exact .inl c
   ·exact .inr ⟨r,c,yao k.size aD⟩⟩
theorem StQ.far{J}(s:StQ Q H w (some aq) I)(aT:J<w.heap.size)(K:H≠some J):aq≠J:=by
 rcases s.row with c|⟨r,c,aD⟩<;>grind
theorem DI(w R U aa m1 ae cap m3 ai base vs a n)(h:w.ownsRow base 62 6 (.slice U vs.length cap) vs.length (fF vs))(hb:base<=w.heap.size)(ad:vs.length<=900000)(ar:a<0):
  Calls prog 143 #[eZ R m1 ae U vs.length cap aa m3 ai,hA a,hA n] w λe B=>∃aq cap',e=.returned (.tuple #[eZ R m1 ae (some ⟨aq,0,none⟩) (vs.length+1) cap' aa m3 ai,hA (vs.length:Nat)])/\B.ownsRow base 62 6 (hz aq (vs.length+1) cap') (vs.length+1) (fF (vs++[eK 1 n 0 0 0]))/\StQ (λ_=>False) (Value.slice U vs.length cap).ownBlock w (some aq) B:=by
 have aw:=ez 0 0 w (e9 R m1 ae U vs.length cap aa m3 ai);have ak:=ez 0 0 (w.alloc (e9 R m1 ae U vs.length cap aa m3 ai)) fJ;have bg:=(fB w _ _ _).keep ak
 have aW:SG _ _ _ _ _ _ _ _ _ _ _ _ _:=
  ⟨bg.sz,λo=>by simp,bg.q0,bg.q1,bg.q2,eO h (aw.trans ak),rfl,λe=>hJ ((eH h e).2),by simp;omega⟩
 have bC:=iN (w.alloc (e9 R m1 ae U vs.length cap aa m3 ai));rw[show(w.alloc _).heap.size=w.heap.size+1 by simp]at bC;have bm:E _:=bC;have ao:E _:=aW;have HK:E _:=aw.trans ak;have HR:E (∀J,w.heap.size<=J->(Value.slice U _ _).ownBlock≠some J):=λJ aT e=>hJ ((eH h e).2)
 have bK:=aW.c0;have bu:=aW.c1;have p2:=aW.c2;have bG:=aW.free;clear h aw ak bg aW bC;go_enter func143,ntmps143;go_upto_region 3 with fail;generalize (w.alloc _).alloc _=X at bm ao HK bK bu p2 bG⊢;go_cut [] (λcd=>∃aq cap',E (SG cd w.heap.size R m1 ae aa m3 ai (vs++[eK 1 n 0 0 0]) base (some aq) (some ⟨aq,0,none⟩) cap'/\StQ (λi=>i=w.heap.size) (Value.slice U vs.length cap).ownBlock X (some aq) cd))
 case first=>
  go_region_with (first
   |(go_at_call 44;refine yaj (SG.call ao.o ((eG X).trans aw) (eK 1 n 0 0 0) xaa) ?_;rintro e ag ⟨aq,cap',rfl,⟨u0,br⟩,⟨u1,ay⟩,⟨u2,a0⟩,al,aS⟩)
   |(go_at_call 71;refine yaj (oT _ _) ?_;rintro e aA ⟨rfl,aw⟩;obtain⟨_,_,aZ,ax,aU,_,_,_,_⟩:=SG.keep ao.o ((eG X).trans aw)))
  all_goals (go_wp2_with fail;go_meet;exact⟨aq,cap',aS⟩)
 case rest=>
  obtain⟨aq,cap',aS⟩:=hcut;have af:(vs++[eK 1 n 0 0 0]).length=vs.length+1:=by simp
  obtain⟨aQ,a8,bi,bk,K,Z,b8,m,s⟩:=aS.o.1;have j:(Value.slice U _ _).ownBlock≠some (w.heap.size+1):=λe=>HR.o _ xaa e;have HN2:E _:=RB.stq bm.o aS.o.2 xaa j;rw[af]at bk Z;have HO:E _:=Z;clear aQ a8 Z b8 m s bK bu p2 bG;have G:E _:=λW=>jO W R (some ⟨aq,0,none⟩) aa m1 ae (vs.length+1) cap' m3 ai xaa;rw[show((vs.length+1:Nat):Int)-1=vs.length by omega]at G;have g:E (∀W,Kept 0 0 _ W->SG W _ _ _ _ _ _ _ _ _ _ _ _/\RB W _ _ _ _):=λW k=>⟨aS.o.1.keep k,RB.keep HN2.o k⟩
  have aI:E (∀W,Kept 0 0 _ W->(fw W _ (.slice R m1 ae) (hz aq (vs.length+1) cap') (.slice aa m3 ai)).ownsRow _ _ 6 _ _ _/\StQ _ _ w _ (fw W _ (.slice R m1 ae) (hz aq (vs.length+1) cap') (.slice aa m3 ai))):=λW k=>by
   have bL:=aS.o.2.far bm.o.sz j
   have f:(hz _ (vs.length+1) cap').ownBlock≠some _:=λc=>bL (by simpa[Value.ownBlock] using c)
   refine⟨eI (eI (eI (eO HO.o k) f) f) f,?_⟩
   exact((aS.o.2.drop HK.o yad).keepQ k).new (ft W (w.heap.size+1) _ _ _) xaa
  clear bm ao HN2 HO HR j;go_upto_region 4 with fail
  go_region_with (first
   |(go_at_call 47;refine yaj (G.o _) ?_;rintro e aF ⟨rfl,aR⟩;obtain⟨⟨_,_,aZ,ax,aU,_,_,_,_⟩,⟨_,bn,aX,bb,bz,bo,bw⟩⟩:=g.o aF ((eG wc).trans aR);rw[af]at ax;have bX:E _:=aI.o aF ((eG wc).trans aR)))
  all_goals
   go_wp2_with fail
   obtain⟨ba,aP,y2⟩:=fp aF (w.heap.size+1) _ _ _ bn aX bb (.slice R m1 ae) (hz aq (vs.length+1) cap') (.slice aa m3 ai)
   refine yaz (v:=.tuple #[eZ R m1 ae (some ⟨aq,0,none⟩) (vs.length+1) cap' aa m3 ai,hA (vs.length:Nat)]) (by simp[results,results143,go_sem,ba,aP,y2]) rfl ⟨aq,cap',rfl,bX.o.1,bX.o.2⟩
def MvP(w:World)(b1:Option Addr)(m1 e1:Nat)(b3:Option Addr)(m3 e3:Nat)(vs:List Vl)(base:Nat)(R:Option Nat)(M:List Vl×Int)(e:Ending)(w':World):Prop:=
 ∃a2' cap' R',e=.returned (.tuple #[eZ b1 m1 e1 a2' (vs++M.1).length cap' b3 m3 e3,.int .i64 M.2])/\w'.ownsRow base 62 6 (.slice a2' (vs++M.1).length cap') (vs++M.1).length (fF (vs++M.1))/\(Value.slice a2' (vs++M.1).length cap').ownBlock=R'/\StQ (λ_=>False) R w R' w'
theorem At.stq{W o v}(t:At W p o v)(af:p<W.heap.size)(s:StQ (λi=>i=P) H W R' I)(aM:p≠P)(K:H≠some p):At I p o v:=by
 have ad:¬((λi=>i=P) p\/H=some p):=by grind
 have e:∀o,_:=λo=>s.chg.cell (p:=⟨p,o,none⟩) af ad;obtain⟨aY,aC,aL,b1,ba,cn⟩:=t;exact⟨by grind,by grind,by grind,by grind,by grind,by grind⟩
theorem StQ.seq{f W g}(a:StQ Q H w R' W)(b:StQ f R' W g I)(h:∀i,i<w.heap.size->¬f i):StQ Q H w g I where
 chg:=⟨b.chg.os.trans a.chg.os,b.chg.tape.trans a.chg.tape,b.chg.output.trans a.chg.output,yao a.chg.size b.chg.size,λk O ad=>by
  rw[b.chg.block k (yak O a.chg.size) ?_]
  ·exact a.chg.block k O ad
  ·rintro (c|c)
   ·grind
   ·rcases a.row with e|⟨r,e,aD⟩<;>grind⟩
 row:=by
  rcases b.row with e|⟨r,e,aD⟩
  ·rw[e];exact a.row
  exact .inr ⟨r,e,yao a.chg.size aD⟩
structure MS(w W:World)(b1:Option Addr)(m1 e1:Nat)(b3:Option Addr)(m3 e3:Nat)(vs:List Vl)(v:Vl)(base:Nat)(R R':Option Nat)(a2:Option Addr)(cap:Nat):Prop where
 g:SG W w.heap.size b1 m1 e1 b3 m3 e3 vs base R' a2 cap
 b:RB W (w.heap.size+1) (.slice none 0 0) (.slice none 0 0) (.slice none 0 0)
 v:At W (w.heap.size+1+1) 0 v
 lt:w.heap.size+1+1<W.heap.size
 n1:R'≠some (w.heap.size+1)
 n2:R'≠some (w.heap.size+1+1)
 s:StQ (λ_=>False) R w R' W
theorem MS.keep{W v}(h:MS w W R m1 ae aa m3 ai vs v base H R' U cap)(k:Kept 0 0 W I):MS w I R m1 ae aa m3 ai vs v base H R' U cap:=
 ⟨h.g.keep k,h.b.keep k,h.v.keep h.lt k yaa,yak h.lt k.size,h.n1,h.n2,h.s.keepQ k⟩
theorem MS.start(v)(h:w.ownsRow base 62 6 (.slice U vs.length cap) vs.length (fF vs))(hb:base<=w.heap.size):
  MS w (((w.alloc (e9 R m1 ae U vs.length cap aa m3 ai)).alloc fJ).alloc (fH v.op v.len v.a v.b v.c v.k)) R m1 ae aa m3 ai vs v base (Value.slice U vs.length cap).ownBlock (Value.slice U vs.length cap).ownBlock U cap:=by
 have aw:=ez 0 0 w (e9 R m1 ae U vs.length cap aa m3 ai);have ak:=ez 0 0 (w.alloc (e9 R m1 ae U vs.length cap aa m3 ai)) fJ;have aR:=ez 0 0 ((w.alloc (e9 R m1 ae U vs.length cap aa m3 ai)).alloc fJ) (fH v.op v.len v.a v.b v.c v.k);have bg:=((fB w _ _ _).keep ak).keep aR;have K:∀J,w.heap.size<=J->(Value.slice U _ _).ownBlock≠some J:=λJ aT e=>hJ ((eH h e).2)
 have bC:=iN (w.alloc (e9 R m1 ae U vs.length cap aa m3 ai));rw[show(w.alloc _).heap.size=w.heap.size+1 by simp]at bC;have bO:=i9 ((w.alloc (e9 R m1 ae U vs.length cap aa m3 ai)).alloc fJ) v;rw[show((w.alloc _).alloc _).heap.size=w.heap.size+1+1 by simp]at bO;exact⟨⟨bg.sz,λo=>by rw[(ak.trans aR).frozen xac xaa];simp,bg.q0,bg.q1,bg.q2,eO h ((aw.trans ak).trans aR),rfl,K _ yad,by simp;omega⟩,bC.keep aR,bO,by simp,K _ xaa,K _ xaa,(StQ.refl _ _ w).keepQ ((aw.trans ak).trans aR)⟩
theorem MS.next{W v}(h:MS w W R m1 ae aa m3 ai vs v base H R' U cap)(k:Kept 0 0 W az)
  (own:ag.ownsRow base 62 6 (hz aq (vs.length+1) cap') (vs.length+1) (fF (vs++[u]))) (s:StQ (λ_=>False) R' az (some aq) ag):
  (∃u,ag.cell? ⟨w.heap.size,0,none⟩=some u)/\(∃u,ag.cell? ⟨w.heap.size,1,none⟩=some u)/\(∃u,ag.cell? ⟨w.heap.size,2,none⟩=some u)/\(∀o,ag.frozen? ⟨w.heap.size,o,none⟩=false)/\At ag (w.heap.size+1+1) 0 v/\
   E (MS w (fw ag w.heap.size (.slice R m1 ae) (hz aq (vs.length+1) cap') (.slice aa m3 ai)) R m1 ae aa m3 ai (vs++[u]) v base H (some aq) (some ⟨aq,0,none⟩) cap'):=by
 have F:=h.g.keep k;obtain⟨aC,aL⟩:=h.g.put k own s;have hb:=s.chg.block _ F.lt (by rintro (c|c);exact c;exact h.g.ne c);have e:∀o,_:=λo=>World.cell?_of_block (a:=⟨w.heap.size,o,none⟩) hb;have j:∀o,_:=λo=>World.frozen?_of_block (a:=⟨w.heap.size,o,none⟩) hb
 have aO:At ag (w.heap.size+1+1) 0 v:=by
  have af:=yak h.lt k.size;have an:∀o,_:=λo=>s.chg.cell (p:=⟨_,o,none⟩) af (by rintro (c|c);exact c;exact h.n2 c);obtain⟨aY,aC,aL,b1,ba,cn⟩:=h.v.keep h.lt k yaa;exact⟨by grind,by grind,by grind,by grind,by grind,by grind⟩
 exact⟨⟨_,(e 0).trans F.c0⟩,⟨_,(e 1).trans F.c1⟩,⟨_,(e 2).trans F.c2⟩,λo=>by rw[j];exact F.free o,aO,aC,h.b.stq aL xaa h.n1,h.v.stq h.lt aL xaa h.n2,yak h.lt aL.chg.size,
  λc=>aL.far (Nat.lt_trans yaf h.lt) h.n1 (by simpa using c),λc=>aL.far h.lt h.n2 (by simpa using c),h.s.seq aL (λi hi c=>by omega)⟩
theorem MS.call{W v}(h:MS w W R m1 ae aa m3 ai vs v base H R' U cap)(k:Kept 0 0 W az)(u)(ad:vs.length<=1000000):
  Calls prog 44 #[eZ R m1 ae U vs.length cap aa m3 ai,u.agg] az λe ag=>∃aq cap',e=.returned (eZ R m1 ae (some ⟨aq,0,none⟩) (vs.length+1) cap' aa m3 ai)/\
   (∃u,ag.cell? ⟨w.heap.size,0,none⟩=some u)/\(∃u,ag.cell? ⟨w.heap.size,1,none⟩=some u)/\(∃u,ag.cell? ⟨w.heap.size,2,none⟩=some u)/\(∀o,ag.frozen? ⟨w.heap.size,o,none⟩=false)/\At ag (w.heap.size+1+1) 0 v/\
   E (MS w (fw ag w.heap.size (.slice R m1 ae) (hz aq (vs.length+1) cap') (.slice aa m3 ai)) R m1 ae aa m3 ai (vs++[u]) v base H (some aq) (some ⟨aq,0,none⟩) cap'):=by
 have F:=h.g.keep k;refine(rP _ _ _ _ _ _ _ _ _ _ _ u F.own F.sz ad).mono ?_;exact xhi
theorem MS.orNone{W v}(h:MS w W R m1 ae aa m3 ai vs v base H R' U cap)(k:Kept 0 0 W az)(a n)(ar:a<0)(ad:vs.length<=900000):
  Calls prog 143 #[eZ R m1 ae U vs.length cap aa m3 ai,hA a,hA n] az λe ag=>∃aq cap',e=.returned (.tuple #[eZ R m1 ae (some ⟨aq,0,none⟩) (vs.length+1) cap' aa m3 ai,hA (vs.length:Nat)])/\
   (∃u,ag.cell? ⟨w.heap.size,0,none⟩=some u)/\(∃u,ag.cell? ⟨w.heap.size,1,none⟩=some u)/\(∃u,ag.cell? ⟨w.heap.size,2,none⟩=some u)/\(∀o,ag.frozen? ⟨w.heap.size,o,none⟩=false)/\At ag (w.heap.size+1+1) 0 v/\
   E (MS w (fw ag w.heap.size (.slice R m1 ae) (hz aq (vs.length+1) cap') (.slice aa m3 ai)) R m1 ae aa m3 ai (vs++[eK 1 n 0 0 0]) v base H (some aq) (some ⟨aq,0,none⟩) cap'):=by
 have F:=h.g.keep k;refine(DI _ _ _ _ _ _ _ _ _ _ _ a n F.own F.sz ad ar).mono ?_;exact xhi
theorem MS.orSome{W v}(h:MS w W R m1 ae aa m3 ai vs v base H R' U cap)(k:Kept 0 0 W az)(a n)(ar:0<=a):
  Calls prog 143 #[eZ R m1 ae U vs.length cap aa m3 ai,hA a,hA n] az λe ag=>e=.returned (.tuple #[eZ R m1 ae U vs.length cap aa m3 ai,hA a])/\
   (∃u,ag.cell? ⟨w.heap.size,0,none⟩=some u)/\(∃u,ag.cell? ⟨w.heap.size,1,none⟩=some u)/\(∃u,ag.cell? ⟨w.heap.size,2,none⟩=some u)/\(∀o,ag.frozen? ⟨w.heap.size,o,none⟩=false)/\At ag (w.heap.size+1+1) 0 v/\
   E (MS w (fw ag w.heap.size (.slice R m1 ae) (.slice U vs.length cap) (.slice aa m3 ai)) R m1 ae aa m3 ai vs v base H R' U cap):=by
 refine(DH _ _ _ _ _ _ _ _ _ _ a n ar).mono ?_;rintro e ag ⟨rfl,ak⟩;have N:=h.keep (k.trans ak);have S:=ft ag w.heap.size (.slice R m1 ae) (.slice U vs.length cap) (.slice aa m3 ai);obtain⟨ba,aP,y2⟩:=fp _ _ _ _ _ N.g.c0 N.g.c1 N.g.c2 (.slice R m1 ae) (.slice U vs.length cap) (.slice aa m3 ai);have f:(Value.slice U vs.length cap).ownBlock≠some w.heap.size:=hL N.g.row N.g.ne
 have bY:∀J o,J≠w.heap.size->J<ag.heap.size->(fw ag _ _ _ _).cell? _=ag.cell? ⟨J,o,none⟩:=λJ o aT af=>S.cell af (by grind);have j:∀J o,J≠w.heap.size->J<ag.heap.size->(fw ag _ _ _ _).frozen? _=ag.frozen? ⟨J,o,none⟩:=λJ o aT af=>S.frozen af (by grind);obtain⟨aO,bn,aX,bb,bz,bo,bw⟩:=N.b;obtain⟨aD,a5,a7,z,G,F⟩:=N.v
 refine⟨rfl,⟨_,N.g.c0⟩,⟨_,N.g.c1⟩,⟨_,N.g.c2⟩,N.g.free,N.v,⟨yak N.g.lt S.size,λo=>?_,ba,aP,y2,eI (eI (eI N.g.own f) f) f,N.g.row,N.g.ne,yao N.g.sz S.size⟩,
  ⟨yak aO S.size,by grind,by grind,by grind,by grind,by grind,by grind⟩,
  ⟨by rw[bY _ _ xaa N.lt];exact aD,by rw[bY _ _ xaa N.lt];exact a5,by rw[bY _ _ xaa N.lt];exact a7,by rw[bY _ _ xaa N.lt];exact z,by rw[bY _ _ xaa N.lt];exact G,by rw[bY _ _ xaa N.lt];exact F⟩,yak N.lt S.size,N.n1,N.n2,N.s.new S yad⟩
 unfold fw;simp[N.g.free o]
theorem MS.fin{W vs0 v M}(h:MS w W R m1 ae aa m3 ai vs v base H R' U cap)(k:Kept 0 0 W I)(aO:vs=vs0++M.1):
  MvP w R m1 ae aa m3 ai vs0 base H M (.returned (.tuple #[eZ R m1 ae U vs.length cap aa m3 ai,hA M.2])) (fw I (w.heap.size+1) (.slice R m1 ae) (.slice U vs.length cap) (.slice aa m3 ai)):=by
 exact xdy
end
section
def px(n:Nat):Code->Option Code
 |.region i ops d=>if i=n then some (.region i ops d)else none
 |.seq a b=>match px n a with
  |some c=>some c
  |none=>px n b
 |.cond _ a b=>match px n a with
  |some c=>some c
  |none=>px n b
 |.block _ c=>px n c
 |.scope c=>px n c
 |.loop c=>px n c
 |_=>none
noncomputable def Qt (n:Nat):Code:=(Tryz.f141.body.bind (px n)).getD .skip
theorem fk{P}{c:Code}{K Q a w}(h:c.wp P (Exit.then K λ_ _ _=>False) a w):c.wp P (Exit.then K Q) a w:=by
 exact xid
variable{w W:World}{R aa U:Option Addr}{m1 ae cap m3 ai base aN i:Nat}{vs:List Vl}{v:Vl}{aV:Int}{H R':Option Nat}
structure MvH(w:World)(cap base g2 i:Nat)(vs:List Vl)(v:Vl):Prop where
 h:w.ownsRow base 62 6 (.slice (some ⟨g2,0,none⟩) vs.length cap) vs.length (fF vs)
 hb:base<=w.heap.size
 hn:vs.length<=800000
 hi:i<vs.length
 hv:At w g2 (i*6) v
theorem MvH.op(Y:MvH w cap base aN i vs v)(R aa m1 ae m3 ai):At w aN (i*6) v/\0<=(i:Int)/\(i:Int)<vs.length/\aN<w.heap.size/\∃X,
  E (((w.alloc (e9 R m1 ae (some ⟨aN,0,none⟩) vs.length cap aa m3 ai)).alloc fJ).alloc (fH v.op v.len v.a v.b v.c v.k)=X)/\vs.length<=800000/\E (MS w X R m1 ae aa m3 ai vs v base (some aN) (some aN) (some ⟨aN,0,none⟩) cap)/\E (w.ownsRow base 62 6 (hz aN vs.length cap) vs.length (fF vs)):=
 ⟨Y.hv,by omega,hJ Y.hi,(eH Y.h (k:=aN) rfl).2,_,rfl,Y.hn,MS.start v Y.h Y.hb,Y.h⟩
theorem MS.lst(h:MS w W R m1 ae aa m3 ai vs v base H R' U cap)(ad:vs.length<=1000000)(bC:(vs.length:Int)-1=aV):Calls prog 47 #[eZ R m1 ae U vs.length cap aa m3 ai] W λe B=>e=.returned (hA aV)/\E (MS w B R m1 ae aa m3 ai vs v base H R' U cap):=
 (jO W R U aa m1 ae vs.length cap m3 ai ad).mono λ_ _ q=>⟨bC ▸ q.1,h.keep q.2⟩
def MpR(w:World)(b1:Option Addr)(m1 e1:Nat)(b3:Option Addr)(m3 e3:Nat)(vs:List Vl)(v:Vl)(base:Nat)(R:Option Nat)(x:Vl)(W':World):Prop:=
 ∃us g' cap',E (us=vs++[x]/\us.length=vs.length+1)/\us.length<=vs.length+1/\E (MS w W' b1 m1 e1 b3 m3 e3 us v base R (some g') (some ⟨g',0,none⟩) cap')
def MfK(R:World->Prop)(p0 p1 p2 p3 p4 p5 p6 p7 p8 p9 p10 p12 p13 p14 p15 p16 p17 p18 p19 q11:Value)(K:Act->World->Prop):Prop:=∀{a b c d e f g h i j k l m n o p q r s t u v w x y z A B C D Eaa F G H I J L M N O P Q S T U V W X Y Z aa ab ad ae af ag ah ai aj ak al am an ao ap aq ar au av aw ax ay az aA aB aC aD aE aF aG aH aI aJ aK aL aM aN aO aP aQ aR aS aT aU aV aW aX aY aZ a0 a1 a2 a3 a4 a5 a6 a7 a8 a9 ba bb bc bd be bf bg bh bi bj bk bl bm bn bo bp bq br bs bt bu bv bw bx bz bA bB bC bD bE bF bG bH bI bJ bK bL bM bN bO bP bQ bR bS bT bU bV bW bX bY bZ b0 b1 b2 b3 b4 b5 b6 b7 b8 b9 ca cb cc cd ce cf cg ch ci cj ck cl cm cn co cp cq cr cs ct cu cv cw cx cy cz cA cB cC cD cE cF cG cH cI cJ cK cL cM cN cO cP cQ cR cS cT cU cV cW cX cY cZ c0 c1 c2 c3 c4 c5 c6 c7 c8 c9 da db dc dd de df:Value} (W':World),R W'->K ⟨#[p0,p1,p2,p3,p4,p5,p6,p7,p8,p9,p10,q11,p12,p13,p14,p15,p16,p17,p18,p19,a,b,c,d,e,f,g,h,i,j,k,l,m,n,o,p,q,r,s,t,u,v,w,x,y,z,A,B,C,D,Eaa,F,G,H,I,J,L,M,N,O,P,Q,S,T,U,V,W,X,Y,Z,aa,ab,ad,ae,af,ag,ah,ai,aj,ak,al,am,an,ao,ap,aq,ar,au,av,aw,ax,ay,az,aA,aB,aC,aD,aE,aF,aG,aH,aI,aJ,aK,aL,aM,aN,aO,aP,aQ,aR,aS,aT,aU,aV,aW,aX,aY,aZ,a0,a1,a2,a3,a4,a5,a6,a7,a8,a9,ba,bb,bc,bd,be,bf,bg,bh,bi,bj,bk,bl,bm,bn,bo,bp,bq,br,bs,bt,bu,bv,bw,bx,bz,bA,bB,bC,bD,bE,bF,bG,bH,bI,bJ,bK,bL,bM,bN,bO,bP,bQ,bR,bS,bT,bU,bV,bW,bX,bY,bZ,b0,b1,b2,b3,b4,b5,b6,b7,b8,b9,ca,cb,cc,cd,ce,cf,cg,ch,ci,cj,ck,cl,cm,cn,co,cp,cq,cr,cs,ct,cu,cv,cw,cx,cy,cz,cA,cB,cC,cD,cE,cF,cG,cH,cI,cJ,cK,cL,cM,cN,cO,cP,cQ,cR,cS,cT,cU,cV,cW,cX,cY,cZ,c0,c1,c2,c3,c4,c5,c6,c7,c8,c9,da,db,dc,dd,de,df],[]⟩ W'
def MfC(n:Nat)(W:World)(R:World->Prop)(a b c d e f g h i j k u l m o p q r s t v:Value):Prop:=
 ∀{K:Act->World->Prop}{w x y z A B C D Eaa F G H I J L M N O P Q S T U V X Y Z aa ab ad ae af ag ah ai aj ak al am an ao ap aq ar au av aw ax ay az aA aB aC aD aE aF aG aH aI aJ aK aL aM aN aO aP aQ aR aS aT aU aV aW aX aY aZ a0 a1 a2 a3 a4 a5 a6 a7 a8 a9 ba bb bc bd be bf bg bh bi bj bk bl bm bn bo bp bq br bs bt bu bv bw bx bz bA bB bC bD bE bF bG bH bI bJ bK bL bM bN bO bP bQ bR bS bT bU bV bW bX bY bZ b0 b1 b2 b3 b4 b5 b6 b7 b8 b9 ca cb cc cd ce cf cg ch ci cj ck cl cm cn co cp cq cr cs ct cu cv cw cx cy cz cA cB cC cD cE cF cG cH cI cJ cK cL cM cN cO cP cQ cR cS cT cU cV cW cX cY cZ c0 c1 c2 c3 c4 c5 c6 c7 c8 c9 da db dc dd de df dg dh di dj dk dl dm dn dp dq dr ds dt du dv dw dx dy dz dA dB dC dD:Value},MfK R a b c d e f g h i j k l m o p q r s t v K->Code.wp prog (Qt n) (Exit.then K λ_ _ _=>False) ⟨#[a,b,c,d,e,f,g,h,i,j,k,u,l,m,o,p,q,r,s,t,w,x,y,z,A,B,C,D,Eaa,F,G,H,I,J,L,M,N,O,P,Q,S,T,U,V,X,Y,Z,aa,ab,ad,ae,af,ag,ah,ai,aj,ak,al,am,an,ao,ap,aq,ar,au,av,aw,ax,ay,az,aA,aB,aC,aD,aE,aF,aG,aH,aI,aJ,aK,aL,aM,aN,aO,aP,aQ,aR,aS,aT,aU,aV,aW,aX,aY,aZ,a0,a1,a2,a3,a4,a5,a6,a7,a8,a9,ba,bb,bc,bd,be,bf,bg,bh,bi,bj,bk,bl,bm,bn,bo,bp,bq,br,bs,bt,bu,bv,bw,bx,bz,bA,bB,bC,bD,bE,bF,bG,bH,bI,bJ,bK,bL,bM,bN,bO,bP,bQ,bR,bS,bT,bU,bV,bW,bX,bY,bZ,b0,b1,b2,b3,b4,b5,b6,b7,b8,b9,ca,cb,cc,cd,ce,cf,cg,ch,ci,cj,ck,cl,cm,cn,co,cp,cq,cr,cs,ct,cu,cv,cw,cx,cy,cz,cA,cB,cC,cD,cE,cF,cG,cH,cI,cJ,cK,cL,cM,cN,cO,cP,cQ,cR,cS,cT,cU,cV,cW,cX,cY,cZ,c0,c1,c2,c3,c4,c5,c6,c7,c8,c9,da,db,dc,dd,de,df,dg,dh,di,dj,dk,dl,dm,dn,dp,dq,dr,ds,dt,du,dv,dw,dx,dy,dz,dA,dB,dC,dD],[]⟩ W
theorem MpE{y:Prop}(h:y:=by
 unfold MfC;intros;rename_i HK;have aZ:=HM.o.g.c0;have ax:=HM.o.g.c1;have aU:=HM.o.g.c2;conv=>arg 2;whnf
 go_region_with (first
  |(go_at_call 44;refine yaj (HC.o _ ((eG W).trans aw)) ?_;rintro e ag ⟨aq,cap',rfl,⟨u0,br⟩,⟨u1,ay⟩,⟨u2,a0⟩,al,_,aI⟩;have bZ:=al 0;have b5:=al 1;have b6:=al 2;clear al)
  |(go_at_call 46;refine yaj (ij _ _ _ _ _ _) ?_;rintro e aA ⟨rfl,aw⟩;have bK:=(MS.keep HM.o ((eG W).trans aw)).g.c0;have bu:=(MS.keep HM.o ((eG W).trans aw)).g.c1;have p2:=(MS.keep HM.o ((eG W).trans aw)).g.c2))
 all_goals exact HK _ ⟨_,_,_,⟨rfl,by simp⟩,by simp,aI⟩):y:=h
end
section
attribute[local go_sem] eF eE eD
variable{R aa U:Option Addr}{m1 ae m3 ai base cap bJ:Nat}{vs:List Vl}{o C r bE:Int}{H R':Option Nat}{c0 c1 c2 c4 cp cr cn bd ca aj cx an cy:Value}
theorem GC{w W vb ak ct cu cw}(HM:E (MS w W R m1 ae aa m3 ai vs ⟨o,C,r,vb,bE,bJ⟩ base H R' U cap))(au:vs.length<=900000):MfC 20 W (MpR w R m1 ae aa m3 ai vs ⟨o,C,r,vb,bE,bJ⟩ base H (eK 4 C r ak 0)) c0 c1 c2 (hA ak) c4 (hy w.heap.size) cp cr cn bd ca aj (hy (w.heap.size+1+1)) (hA C) cx an cy ct cu cw aj:=by
 have HC:E (∀az,Kept 0 0 W az->_):=λaz k=>MS.call HM.o k (eK 4 C r ak 0) xaa;have a7:=HM.o.v.c2;exact MpE
theorem xi{w W vb p q d c3}(HM:E (MS w W R m1 ae aa m3 ai vs ⟨o,C,r,vb,bE,bJ⟩ base H R' U cap))(au:vs.length<=900000):MfC 52 W (MpR w R m1 ae aa m3 ai vs ⟨o,C,r,vb,bE,bJ⟩ base H (eK 8 C d p q)) c0 c1 c2 c3 c4 (hy w.heap.size) cp cr cn bd ca aj (hy (w.heap.size+1+1)) (hA C) cx an cy (hA p) (hA q) (hA d) aj:=by
 have HC:E (∀az,Kept 0 0 W az->_):=λaz k=>MS.call HM.o k (eK 8 C d p q) xaa;exact MpE
end
section
variable{vs2 S j vs:List Vl}{m1 ae m3 ai base cap:Nat}{C aI ak b7:Int}{R aa:Option Addr}
theorem su{w I aN}(h:w.ownsRow base 62 6 (hz aN vs.length cap) vs.length (fF vs))(k:Kept 0 0 w I)(r):
  MvP w R m1 ae aa m3 ai vs base (some aN) ([],r) (.returned (.tuple #[eZ R m1 ae (some ⟨aN,0,none⟩) vs.length cap aa m3 ai,hA r])) I:=by
 unfold MvP;exact xhn
def orM(a n:Int)(N:Nat):List Vl×Int:=if a<0 then ([eK 1 n 0 0 0],(N:Int))else ([],a)
theorem MS.orAny{w W az U v H R'}(h:MS w W R m1 ae aa m3 ai vs v base H R' U cap)(k:Kept 0 0 W az)(a n)(ad:vs.length<=900000):
  Calls prog 143 #[eZ R m1 ae U vs.length cap aa m3 ai,hA a,hA n] az λe ag=>∃(vs2:List Vl) (m:Int) (a2':Option Addr) (cap':Nat) (R2:Option Nat),E (vs2=vs++(orM a n vs.length).1/\m=(orM a n vs.length).2)/\vs2.length<=vs.length+1/\e=.returned (.tuple #[eZ R m1 ae a2' vs2.length cap' aa m3 ai,hA m])/\
   (∃u,ag.cell? ⟨w.heap.size,0,none⟩=some u)/\(∃u,ag.cell? ⟨w.heap.size,1,none⟩=some u)/\(∃u,ag.cell? ⟨w.heap.size,2,none⟩=some u)/\(∀o,ag.frozen? ⟨w.heap.size,o,none⟩=false)/\At ag (w.heap.size+1+1) 0 v/\
   E (MS w (fw ag w.heap.size (.slice R m1 ae) (.slice a2' vs2.length cap') (.slice aa m3 ai)) R m1 ae aa m3 ai vs2 v base H R2 a2' cap'):=by
 by_cases ar:a<0
 ·refine(h.orNone k a n ar ad).mono ?_;rintro e ag ⟨aq,cap',rfl,br,ay,a0,al,aO,bx⟩;have af:(vs++[eK 1 n 0 0 0]).length=vs.length+1:=by simp
  refine⟨vs++[eK 1 n 0 0 0],(vs.length:Nat),some ⟨aq,0,none⟩,cap',some aq,⟨by rw[orM,hD ar],by rw[orM,hD ar]⟩,by rw[af];exact yad,by rw[af],br,ay,a0,al,aO,?_⟩;grind
 refine(h.orSome k a n xaa).mono ?_;rintro e ag ⟨rfl,br,ay,a0,al,aO,bx⟩;exact⟨vs,a,U,cap,R',⟨by rw[orM,hC ar,List.append_nil],by rw[orM,hC ar]⟩,by omega,rfl,br,ay,a0,al,aO,bx⟩
theorem GD{d m3}(F:-1<=aI)(N:-1<=ak)(aL:vs2=vs++(orM aI C vs.length).1/\b7=(orM aI C vs.length).2)(b1:S=vs2++(orM ak C vs2.length).1/\m3=(orM ak C vs2.length).2)(ba:j=S++[eK 8 C d b7 m3]):
  j=vs++(chM C d aI ak vs.length).1/\(j.length:Int)-1=(chM C d aI ak vs.length).2:=by
 grind[chM,orM]
theorem GE{f r vb m3}(F:-1<=aI)(N:-1<=ak)(aC:f=vs++[eK 3 C r vb 0])(aL:vs2=f++(orM aI C f.length).1/\b7=(orM aI C f.length).2)(b1:S=vs2++(orM ak C vs2.length).1/\m3=(orM ak C vs2.length).2)(ba:j=S++[eK 8 C ((vs.length:Nat):Int) b7 m3]):
  j=vs++([eK 3 C r vb 0]++(chM C ((vs.length:Nat):Int) aI ak (vs.length+1)).1)/\(j.length:Int)-1=(chM C ((vs.length:Nat):Int) aI ak (vs.length+1)).2:=by
 have af:f.length=vs.length+1:=by grind
 grind[GD]
