import Derived.Test.YtaheilbiakhlgaaGreatP11
import Derived.Test.YtaheilbiakhlgaaGreatP08
namespace Go.Proofs.Z
open Tryz Go.RowKit Flt
set_option maxRecDepth 1000000
set_option maxHeartbeats 0
section
attribute[local go_sem] eF eE eD
variable{q k p P m1 l af m3 aj base aA cap cap':Nat}{Q:Nat->Prop}{w W' ay J m:World}{r:Int}{y u:Vl}{R R':Option Nat}{N ad Z:Option Addr}{vs:List Vl}
def mvM(i:Int)(v:Vl)(ta tb tc:Int)(N:Nat):List Vl×Int:=
 if ta=-1/\tb=-1/\tc=-1 then ([],-1)
 else if v.op=2 then yn v.len ta tb N
 else if v.op=3 then yo v.len ta tb N
 else if v.op=4 then yp v ta tb N
 else if v.op=5 then yq i v ta tb N
 else if v.op=7 then ([eK 3 v.len v.a v.b 0]++(chM v.len N ta tb (N+1)).1,(chM v.len N ta tb (N+1)).2)
 else if v.op=8 then (if tb=-1/\tc=-1 then ([],-1)else chM v.len v.a tb tc N)
 else if v.op=13 then ([eK 4 v.len ta i 0],(N:Int))
 else ([eK v.op v.len ta 0 v.c],(N:Int))
def ovs(v:Vl)(mv:List Int)(q j:Nat):Int:=if j<q then mv.getD (fld v j).toNat 0 else -1
theorem CH(v)(ao:q<cnt v.op):(eY v).getD q 0=[v.a,v.b,v.c].getD q 0:=by
 simp_all[eY]
theorem IV(v)(ao:q<3):fld v q=[v.a,v.b,v.c].getD q 0:=by
 rcases (by omega:q=0\/q=1\/q=2) with rfl|rfl|rfl<;>rfl
theorem two{b c}(h:¬(b=-1/\c=-1)):((b==-1)=false)\/((b==-1)=true/\(c==-1)=false):=by
 grind
def lG(k n:Nat):List Int:=List.replicate k (-1)++List.replicate (n-k) 0
theorem uF(k n)(h:k<=n):(lG k n).length=n:=by simp[lG];omega
theorem uG(n):lG n n=List.replicate n (-1):=by simp[lG]
theorem uH{n}(h:k<n):(lG k n).set k (-1)=lG (k+1) n:=by
 apply List.ext_getElem?;intro j;unfold lG;grind
def jmv(vs0:List Vl)(i:Nat)(st:List Vl×List Int):List Vl×Int:=
 mvM (i:Int) (vs0.getD i hK) (ovs (vs0.getD i hK) st.2 (cnt (vs0.getD i hK).op) 0) (ovs (vs0.getD i hK) st.2 (cnt (vs0.getD i hK).op) 1) (ovs (vs0.getD i hK) st.2 (cnt (vs0.getD i hK).op) 2) st.1.length
def jst(vs0:List Vl)(x t:Nat):Nat->List Vl×List Int
 |0=>(vs0,(List.replicate vs0.length (-1)).set x (t:Int))
 |k+1=>((jst vs0 x t k).1++(jmv vs0 (x+1+k) (jst vs0 x t k)).1,(jst vs0 x t k).2.set (x+1+k) (jmv vs0 (x+1+k) (jst vs0 x t k)).2)
theorem wC(vs0 x t):∀k,(jst vs0 x t k).2.length=vs0.length
 |0=>by simp[jst]
 |k+1=>by simp[jst,wC vs0 x t k]
theorem wD(vs0 x t):∀k,∃r,(jst vs0 x t k).1=vs0++r
 |0=>⟨[],by simp[jst]⟩
 |k+1=>by
  obtain⟨r,h⟩:=wD vs0 x t k
  grind[jst]
theorem By(vs0 x t k){i}(hi:i<vs0.length):(jst vs0 x t k).1.getD i hK=vs0.getD i hK:=by
 obtain⟨r,h⟩:=wD vs0 x t k;grind
def Sz(k:Nat)(M:List Vl×Int):Prop:=M.1.length<=k/\0<=fd M.1/\fd M.1<=1000*(k:Int)
theorem iS{p}[Decidable p]{a b}(F:Sz k a)(hb:Sz k b):Sz k (if p then a else b):=by
 grind
theorem Ao:Sz k ([],r):=by grind[Sz,fd]
theorem wG{v}(O:1<=k)(ai:0<=v.len)(B:v.len<=1000):Sz k ([v],r):=by grind[Sz,fd]
theorem ON{v}(O:2<=k)(ai:0<=v.len)(B:v.len<=1000)(U:0<=u.len)(h3:u.len<=1000):Sz k ([v,u],r):=by grind[Sz,fd]
theorem Mr{v}(O:3<=k)(ai:0<=v.len)(B:v.len<=1000)(U:0<=u.len)(h3:u.len<=1000)(a6:0<=y.len)(bK:y.len<=1000):Sz k ([v,u,y],r):=by grind[Sz,fd]
theorem PK{v z}(O:4<=k)(ai:0<=v.len)(B:v.len<=1000)(U:0<=u.len)(h3:u.len<=1000)(a6:0<=y.len)(bK:y.len<=1000)(bm:0<=z.len)(bP:z.len<=1000):Sz k ([v,u,y,z],r):=by grind[Sz,fd]
theorem IW{v M}(h:Sz k M)(ai:0<=v.len)(B:v.len<=1000):Sz (k+1) ([v]++M.1,r):=by
 unfold Sz at*;grind[fd]
theorem Lp{n d p q bK}(ai:0<=n)(B:n<=1000):Sz 3 (chM n d p q bK):=by
 unfold chM;exact iS (iS (Mr xaa ai B ai B ai B) (ON xaa ai B ai B)) (iS (ON xaa ai B ai B) (wG xaa ai B))
theorem IX{M}(h:Sz k M)(O:k<=l):Sz l M:=by
 unfold Sz at*;omega
theorem E6(i v an S ar bK)(ai:0<=v.len)(B:v.len<=1000):Sz 4 (mvM i v an S ar bK):=by
 unfold mvM yn yo yp yq
 exact iS Ao (iS (iS Ao (iS Ao (wG xaa ai B))) (iS (iS Ao (iS (wG xaa ai B) (wG xaa ai B)))
  (iS (iS (iS Ao (wG xaa ai B)) (iS (wG xaa ai B) (Mr xaa ai B ai B ai B)))
  (iS (iS (iS Ao (Mr xaa ai B ai B ai B)) (iS (wG xaa ai B) (PK xaa ai B ai B ai B ai B)))
  (iS (IW (Lp ai B) ai B) (iS (iS Ao (IX (Lp ai B) xaa)) (iS (wG xaa ai B) (wG xaa ai B))))))))
theorem sQ(vs0 x t)(ah:∀k,k<vs0.length->1<=(vs0.getD k hK).len/\(vs0.getD k hK).len<=1000)(bW:0<=fd vs0)(X:fd vs0<=50000):∀k,x+k<vs0.length->(jst vs0 x t k).1.length<=vs0.length+4*k/\0<=fd (jst vs0 x t k).1/\fd (jst vs0 x t k).1<=50000+4000*k
 |0,_=>by simp[jst];omega
 |k+1,O=>by
  have al:=sQ _ x t ah bW X k xaa
  have aM:=ah (x+1+k) xaa
  have aw:=E6 (x+1+k:Nat) (vs0.getD (x+1+k) hK) (ovs (vs0.getD (x+1+k) hK) (jst vs0 x t k).2 (cnt (vs0.getD (x+1+k) hK).op) 0) (ovs (vs0.getD (x+1+k) hK) (jst vs0 x t k).2 (cnt (vs0.getD (x+1+k) hK).op) 1) (ovs (vs0.getD (x+1+k) hK) (jst vs0 x t k).2 (cnt (vs0.getD (x+1+k) hK).op) 2) (jst vs0 x t k).1.length xaa xaa
  rw[jst]
  simp only[yak,sP]
  unfold jmv
  unfold Sz at aw
  omega
def jZ(vs0:List Vl)(s x t:Nat):List Vl×Int:=
 if (jst vs0 x t (s-x)).2.getD s 0=-1 then ((jst vs0 x t (s-x)).1++[eK 1 (vs0.getD s hK).len 0 0 0],((jst vs0 x t (s-x)).1.length:Nat))else ((jst vs0 x t (s-x)).1,(jst vs0 x t (s-x)).2.getD s 0)
theorem mZ:∀(vs:List Vl),(∀j,j<vs.length->0<=(vs.getD j hK).len)->0<=fd vs
 |[],_=>by simp[fd]
 |v::r,h=>by
  have ai:=h 0 xac
  have B:=mZ r (λj hj=>h (j+1) yaf)
  have e:(v::r).getD 0 hK=v:=rfl
  rw[e]at ai
  simp only[fd]
  omega
theorem mG{ins}(ok:okV ins vs k=true):∀q,q<cnt (vs.getD k hK).op->0<=fld (vs.getD k hK) q/\fld (vs.getD k hK) q<k:=λq ao=>by
 by_cases ai:(vs.getD k hK).op=0
 ·grind[cnt]
 ·unfold okV at ok
  rw[hG ai]at ok
  simp only[Bool.and_eq_true]at ok
  have h:=List.all_eq_true.1 ok.2.1 _ (jw (by rw[ja];exact ao))
  have U:=of_decide_eq_true h
  grind[CH,IV,gK]
def kM(vs:List Vl):Bool:=decide (2000<vs.length\/50000<fd vs)
theorem gS(w op n a b c):Calls prog 39 #[hF op,hF n,hF a,hF b,hF c] w λe J=>e=.returned (eK op n a b c).agg/\Kept 0 0 w J:=by
 go_enter func39,ntmps39;go_wp2_with fail;refine yay (v:=(eK op n a b c).agg) (by simp[results,results39,go_sem]) rfl ⟨rfl,ez 0 0 w _⟩
theorem oW(w n):Calls prog 57 #[hF n] w λe J=>e=.returned (eK 1 n 0 0 0).agg/\Kept 0 0 w J:=by
 go_enter func57,ntmps57;go_wp2_with fail;refine yay (v:=(eK 1 n 0 0 0).agg) (by simp[results,results57,go_sem]) rfl ⟨rfl,ez 0 0 w _⟩
theorem je(w a1 Z a3 Y c1 ab c2 aa c3)(hn:ab<=1000000):Calls prog 40 #[eX a1 Y c1 Z ab c2 a3 aa c3] w λe J=>e=.returned (hF ((ab:Int)-1))/\Kept 0 0 w J:=by
 go_enter func40,ntmps40;go_wp2;go_ret;exact⟨rfl,ez 0 0 w _⟩
theorem IY{aG be b3 v o}(_h:w.ownsRow base 40 6 b3 vs.length (fW vs))(k:Kept 0 0 w aG)
  (bv:be.ownsRow base 40 6 (hE aA (vs.length+1) cap') (vs.length+1) (fW vs++v.cells)) (a6:(aG.alloc o).grownBy be b3.ownBlock) (bm:b3.ownBlock=some aA\/aA=(aG.alloc o).heap.size):
  be.ownsRow base 40 6 (hE aA (vs.length+1) cap') (vs.length+1) (fW (vs++[v]))/\StQ (λ_=>False) b3.ownBlock w (some aA) be:=by
 refine⟨by rw[kD,mV];exact bv,⟨a6.os.trans k.os,a6.tape.trans k.tape,a6.output.trans k.output,?_,λi hi hn=>?_⟩,?_⟩
 ·have B:=a6.size;have U:=k.size;simp at B;omega
 ·have U:=k.size;rw[a6.block i yaf (λc=>hn (.inr c.symm)),Below.heap_alloc _ o i xaa];exact k.block i hi xaa
 rcases bm with e|e
 ·grind
 have U:=k.size;exact .inr ⟨_,rfl,by rw[e];simp;omega⟩
theorem StQ.new{h}(s:StQ Q R w R' J)(k:Kept l h J m)(ah:w.heap.size<=l):StQ Q R w R' m:=
 ⟨⟨k.os.trans s.chg.os,k.tape.trans s.chg.tape,k.output.trans s.chg.output,yan s.chg.size k.size,λi hi hn=>by
   rw[k.block i (yaj hi s.chg.size) xaa]
   exact s.chg.block i hi hn⟩,s.row⟩
theorem rN(w N Z ad m1 af cap m3 aj base vs v)(h:w.ownsRow base 40 6 (.slice Z vs.length cap) vs.length (fW vs))(hb:base<=w.heap.size)(hn:vs.length<=1000000):
  Calls prog 37 #[eX N m1 af Z vs.length cap ad m3 aj,v.agg] w λe J=>∃aA cap',e=.returned (eX N m1 af (some ⟨aA,0,none⟩) (vs.length+1) cap' ad m3 aj)/\J.ownsRow base 40 6 (hE aA (vs.length+1) cap') (vs.length+1) (fW (vs++[v]))/\StQ (λ_=>False) (Value.slice Z vs.length cap).ownBlock w (some aA) J:=by
 obtain⟨bC,hi,bn,bQ,br⟩:=info_parts rK;have am:=ez 0 0 w (eZ N m1 af Z vs.length cap ad m3 aj);have an:=ez 0 0 (w.alloc (eZ N m1 af Z vs.length cap ad m3 aj)) (eM v.op v.len v.a v.b v.c v.k);have aJ:=ez 0 0 ((w.alloc (eZ N m1 af Z vs.length cap ad m3 aj)).alloc (eM v.op v.len v.a v.b v.c v.k)) fE;have bl:=((fO w (.slice N m1 af) (.slice Z vs.length cap) (.slice ad m3 aj)).keep an).keep aJ
 have i:∀o,(((w.alloc (eZ N m1 af Z vs.length cap ad m3 aj)).alloc (eM v.op v.len v.a v.b v.c v.k)).alloc fE).frozen? ⟨w.heap.size,o,none⟩=false:=λo=>by
  rw[(an.trans aJ).frozen (p:=⟨w.heap.size,o,none⟩) xac xaa]
  simp
 have ak:=(me (w.alloc (eZ N m1 af Z vs.length cap ad m3 aj)) v).keep xac aJ yaa;have bB:=gg ((w.alloc (eZ N m1 af Z vs.length cap ad m3 aj)).alloc (eM v.op v.len v.a v.b v.c v.k));rw[show((w.alloc (eZ N m1 af Z vs.length cap ad m3 aj)).alloc (eM v.op v.len v.a v.b v.c v.k)).heap.size=w.heap.size+1+1 by simp]at bB;rw[show(w.alloc (eZ N m1 af Z vs.length cap ad m3 aj)).heap.size=w.heap.size+1 by simp]at ak;have O:=(am.trans an).trans aJ;have aU:=eW h O;have bp:V _:=h;have HK:V _:=O;have bw:V _:=bB;have bk:V _:=bl;have cn:V _:=i;obtain⟨_,bi,a5,p2⟩:=bl;obtain⟨av,ba,bc,z,aa,ap⟩:=ak;have ei:=yan hb O.size;clear am an aJ i bB O h;go_enter func37,ntmps37;go_wp2_with (first|(at_builtin;refine wpList_append_lies _ rfl _ _ 24 rfl base 40 bC (gO 0 0 0 0 0 0) 6 48 underlying24 hi bn bQ br rfl xab _ _ (fW vs) rfl (aU.alloc _) ⟨w.heap.size+1+1+1,0,none⟩ 1 1 v.cells rfl rfl ?c1 ?c2 xab ?c3 ?c4 ?c5 _ rfl ?_))
 case c1=>
  have bm:=uC (((w.alloc (eZ N m1 af Z vs.length cap ad m3 aj)).alloc (eM v.op v.len v.a v.b v.c v.k)).alloc fE) v 0;rw[show(((w.alloc (eZ N m1 af Z vs.length cap ad m3 aj)).alloc (eM v.op v.len v.a v.b v.c v.k)).alloc fE).heap.size=w.heap.size+1+1+1 by simp]at bm;exact bm
 case c2=>exact Ai v
 case c3=>unfold maxLen;omega
 case c4=>omega
 case c5=>simp;omega
 intro g9 cap9 be bv a6 b9 ck;have g:(((w.alloc (eZ N m1 af Z vs.length cap ad m3 aj)).alloc (eM v.op v.len v.a v.b v.c v.k)).alloc fE).heap.size=w.heap.size+1+1+1:=by simp
 have S:(Value.slice Z vs.length cap).ownBlock=some g9\/g9=((((w.alloc (eZ N m1 af Z vs.length cap ad m3 aj)).alloc (eM v.op v.len v.a v.b v.c v.k)).alloc fE).alloc (.cells #[hF v.op,hF v.len,hF v.a,hF v.b,hF v.c,.float .f64 v.k] 40)).heap.size:=b9.imp id (λe=>by rw[e];simp);obtain⟨az,aZ⟩:=IY (v:=v) bp.o HK.o bv a6 S;have ae:∀I,w.heap.size<=I->(Value.slice Z vs.length cap).ownBlock≠some I:=λI aT e=>hO ((eI bp.o e).2)
 have t:g9<w.heap.size\/w.heap.size+1+1+1<g9:=by
  rcases S with e|e
  ·exact .inl (eI bp.o e).2
  right;rw[e];simp
 have bI:=lF (m:=0) a6 (hT g) (ae w.heap.size yad) bi;have bL:=lF (m:=0) a6 (hT g) (ae w.heap.size yad) a5;have bM:=lF (m:=0) a6 (hT g) (ae w.heap.size yad) p2;have F:=far2 (m:=0) a6 (hT g) (ae w.heap.size yad) (cn.o 1);obtain⟨_,b2,Y,ab,aL,j,s⟩:=bw.o;have bd:=lF (m:=0) a6 (hT g) (ae (w.heap.size+1+1) xaa) b2;have aR:=lF (m:=0) a6 (hT g) (ae (w.heap.size+1+1) xaa) Y;have aV:=lF (m:=0) a6 (hT g) (ae (w.heap.size+1+1) xaa) ab;have bR:=far2 (m:=0) a6 (hT g) (ae (w.heap.size+1+1) xaa) aL;have aS:=far2 (m:=0) a6 (hT g) (ae (w.heap.size+1+1) xaa) j;have bb:=far2 (m:=0) a6 (hT g) (ae (w.heap.size+1+1) xaa) s;have R1:V _:=az;have R2:V _:=aZ;clear az aZ bv a6 b9 S ae aU bp HK bw bk cn bi a5 p2 av ba bc z aa ap ei g b2 Y ab aL j s ck;go_wp2_with fail
 have f:∀I,(I=w.heap.size\/I=w.heap.size+1+1)->(hE g9 (vs.length+1) cap9).ownBlock≠some I:=λI aT e=>by
  have C:g9=I:=by simpa[Value.ownBlock] using e
  omega
 have bV:=eJ (o:=2) (u:=.slice ad m3 aj) (eJ (o:=1) (u:=hE g9 (vs.length+1) cap9) (eJ (o:=0) (u:=.slice N m1 af) (eJ (o:=1) (u:=hE g9 (vs.length+1) cap9) R1.o (f w.heap.size (.inl rfl))) (f (w.heap.size+1+1) (.inr rfl))) (f (w.heap.size+1+1) (.inr rfl))) (f (w.heap.size+1+1) (.inr rfl));have n:(be.setCell ⟨w.heap.size,1,none⟩ (hE g9 (vs.length+1) cap9)).cell? ⟨w.heap.size+1+1,0,none⟩=_:=(eN _ _ _ _ _ _ (.inl xaa)).trans bd;have x:(be.setCell ⟨w.heap.size,1,none⟩ (hE g9 (vs.length+1) cap9)).cell? ⟨w.heap.size+1+1,1,none⟩=_:=(eN _ _ _ _ _ _ (.inl xaa)).trans aR;have B:(be.setCell ⟨w.heap.size,1,none⟩ (hE g9 (vs.length+1) cap9)).cell? ⟨w.heap.size+1+1,2,none⟩=_:=(eN _ _ _ _ _ _ (.inl xaa)).trans aV;obtain⟨aW,aq,aN⟩:=fg (be.setCell ⟨w.heap.size,1,none⟩ (hE g9 (vs.length+1) cap9)) (w.heap.size+1+1) _ _ _ n x B (.slice N m1 af) (hE g9 (vs.length+1) cap9) (.slice ad m3 aj);have aK:=StQ.new R2.o (eU (lo:=w.heap.size) (hi:=w.heap.size+1) be ⟨w.heap.size,1,none⟩ (hE g9 (vs.length+1) cap9) yac) yad;have aP:=StQ.new aK (fh (be.setCell ⟨w.heap.size,1,none⟩ (hE g9 (vs.length+1) cap9)) (w.heap.size+1+1) (.slice N m1 af) (hE g9 (vs.length+1) cap9) (.slice ad m3 aj)) xaa;refine yay (v:=eX N m1 af (some ⟨g9,0,none⟩) (vs.length+1) cap9 ad m3 aj) (by simp[results,results37,go_sem,aW,aq,aN]) rfl ⟨g9,cap9,rfl,bV,aP⟩
theorem CJ(w a1 Z a3 Y c1 ab c2 aa c3 a n)(h:0<=a):
  Calls prog 164 #[eX a1 Y c1 Z ab c2 a3 aa c3,hF a,hF n] w λe J=>e=.returned (.tuple #[eX a1 Y c1 Z ab c2 a3 aa c3,hF a])/\Kept 0 0 w J:=by
 go_enter func164,ntmps164;go_wp2_with fail;refine yay (v:=.tuple #[eX a1 Y c1 Z ab c2 a3 aa c3,hF a]) (by simp[results,results164,go_sem]) rfl ⟨rfl,(ez 0 0 w _).trans (ez 0 0 _ _)⟩
structure SG(w:World)(P:Nat)(b1:Option Addr)(m1 e1:Nat)(b3:Option Addr)(m3 e3:Nat)(vs:List Vl)(base:Nat)(R:Option Nat)(a2:Option Addr)(cap:Nat):Prop where
 lt:P<w.heap.size
 free:∀o,w.frozen? ⟨P,o,none⟩=false
 c0:w.cell? ⟨P,0,none⟩=some (.slice b1 m1 e1)
 c1:w.cell? ⟨P,1,none⟩=some (.slice a2 vs.length cap)
 c2:w.cell? ⟨P,2,none⟩=some (.slice b3 m3 e3)
 own:w.ownsRow base 40 6 (.slice a2 vs.length cap) vs.length (fW vs)
 row:(Value.slice a2 vs.length cap).ownBlock=R
 ne:R≠some P
 sz:base<=w.heap.size
theorem SG.keep(h:SG w P N m1 af ad m3 aj vs base R Z cap)(k:Kept 0 0 w J):SG J P N m1 af ad m3 aj vs base R Z cap:=
 have e:∀o,J.cell? ⟨P,o,none⟩=w.cell? ⟨P,o,none⟩:=λo=>k.cell (p:=⟨P,o,none⟩) h.lt xaa
 ⟨yaj h.lt k.size,λo=>by rw[k.frozen h.lt xaa];exact h.free o,hR e h.c0,hR e h.c1,hR e h.c2,eW h.own k,h.row,h.ne,yan h.sz k.size⟩
def fF(w:World)(P:Nat)(x y z:Value):World:=((w.setCell ⟨P,0,none⟩ x).setCell ⟨P,1,none⟩ y).setCell ⟨P,2,none⟩ z
theorem SG.put{w aG ag P m1 af m3 aj base cap aA cap' N ad Z vs v R}(h:SG w P N m1 af ad m3 aj vs base R Z cap)(k:Kept 0 0 w aG)
  (own:ag.ownsRow base 40 6 (hE aA (vs.length+1) cap') (vs.length+1) (fW (vs++[v]))) (s:StQ (λ_=>False) R aG (some aA) ag):
  SG (fF ag P (.slice N m1 af) (hE aA (vs.length+1) cap') (.slice ad m3 aj)) P N m1 af ad m3 aj (vs++[v]) base (some aA) (some ⟨aA,0,none⟩) cap'/\StQ (λi=>i=P) R w (some aA) (fF ag P (.slice N m1 af) (hE aA (vs.length+1) cap') (.slice ad m3 aj)):=by
 have aB:=h.lt;have b4:=k.size
 have ca:aA≠P:=by
  rcases s.row with e|⟨r,e,av⟩
  ·exact λc=>h.ne (by rw[<-e,c])
  grind
 have hb:=s.chg.block P xaa (by rintro (c|c);exact c;exact h.ne c);have e:∀o,_:=λo=>(World.cell?_of_block hb).trans (k.cell (p:=⟨P,o,none⟩) h.lt xaa);have j:∀o,_:=λo=>(World.frozen?_of_block hb).trans (k.frozen (p:=⟨P,o,none⟩) h.lt xaa);obtain⟨bd,aR,aV⟩:=fg _ P _ _ _ ((e 0).trans h.c0) ((e 1).trans h.c1) ((e 2).trans h.c2) (.slice N m1 af) (hE aA (vs.length+1) cap') (.slice ad m3 aj);have K:=fh ag P (.slice N m1 af) (hE aA (vs.length+1) cap') (.slice ad m3 aj);have ah:(vs++[v]).length=vs.length+1:=by simp
 have f:(hE _ (vs.length+1) cap').ownBlock≠some P:=λc=>ca (by simpa[Value.ownBlock] using c);refine⟨⟨?_,λo=>?_,bd,hR ah aR,aV,?_,rfl,λc=>ca (by simpa using c),?_⟩,⟨?_,?_,?_,?_,λi hi hn=>?_⟩,?_⟩
 ·have:=K.size;have:=s.chg.size;unfold fF;omega
 ·unfold fF;simp[j o,h.free o]
 ·rw[ah];exact eJ (eJ (eJ own f) f) f
 ·have:=K.size;have:=s.chg.size;have:=h.sz;unfold fF;omega
 ·exact K.os.trans (s.chg.os.trans k.os)
 ·exact K.tape.trans (s.chg.tape.trans k.tape)
 ·exact K.output.trans (s.chg.output.trans k.output)
 ·have:=K.size;have:=s.chg.size;unfold fF;omega
 ·unfold fF;rw[K.block i (hO s.chg.size) (λc=>hn (.inl xaa)),s.chg.block i xaa (by grind)];exact k.block i hi xaa
 rcases s.row with c|⟨r,c,av⟩<;>grind
theorem SG.call{w aG P m1 af m3 aj base cap N ad Z vs R}(h:SG w P N m1 af ad m3 aj vs base R Z cap)(k:Kept 0 0 w aG)(v)(hn:vs.length<=1000000):
  Calls prog 37 #[eX N m1 af Z vs.length cap ad m3 aj,v.agg] aG λe ag=>∃aA cap',e=.returned (eX N m1 af (some ⟨aA,0,none⟩) (vs.length+1) cap' ad m3 aj)/\
   (∃u,ag.cell? ⟨P,0,none⟩=some u)/\(∃u,ag.cell? ⟨P,1,none⟩=some u)/\(∃u,ag.cell? ⟨P,2,none⟩=some u)/\(∀o,ag.frozen? ⟨P,o,none⟩=false)/\
   V (SG (fF ag P (.slice N m1 af) (hE aA (vs.length+1) cap') (.slice ad m3 aj)) P N m1 af ad m3 aj (vs++[v]) base (some aA) (some ⟨aA,0,none⟩) cap'/\StQ (λi=>i=P) R w (some aA) (fF ag P (.slice N m1 af) (hE aA (vs.length+1) cap') (.slice ad m3 aj))):=by
 have B:=h.keep k;refine(rN _ _ _ _ _ _ _ _ _ _ _ v B.own B.sz hn).mono ?_;rintro e ag ⟨aA,cap',rfl,own,s⟩;rw[h.row]at s;have hb:=s.chg.block P B.lt (by rintro (c|c);exact c;exact h.ne c);have e:∀o,_:=λo=>World.cell?_of_block (a:=⟨P,o,none⟩) hb;have j:∀o,_:=λo=>World.frozen?_of_block (a:=⟨P,o,none⟩) hb;exact⟨_,_,rfl,⟨_,(e 0).trans B.c0⟩,⟨_,(e 1).trans B.c1⟩,⟨_,(e 2).trans B.c2⟩,λo=>by rw[j];exact B.free o,h.put k own s⟩
theorem RB.stq{W a9 N aD}(t:RB W p a9 N aD)(s:StQ (λi=>i=P) R W R' W')(aF:p≠P)(C:R≠some p):RB W' p a9 N aD:=by
 have hn:¬((λi=>i=P) p\/R=some p):=by grind
 have e:∀o,_:=λo=>s.chg.cell (p:=⟨p,o,none⟩) t.sz hn;have f:∀o,_:=λo=>s.chg.frozen (p:=⟨p,o,none⟩) t.sz hn;exact⟨yaj t.sz s.chg.size,hR e t.q0,hR e t.q1,hR e t.q2,hR f t.f0,hR f t.f1,hR f t.f2⟩
theorem StQ.keepQ(s:StQ Q R w R' J)(k:Kept 0 0 J m):StQ Q R w R' m:=s.new (l:=w.heap.size) (h:=w.heap.size) (k.mono λ_ _ c=>by omega) yad
theorem StQ.drop{B}(s:StQ (λi=>i=P) R B R' W')(k:Kept 0 0 w B)(hP:w.heap.size<=P):StQ (λ_=>False) R w R' W':=
 ⟨⟨s.chg.os.trans k.os,s.chg.tape.trans k.tape,s.chg.output.trans k.output,yan k.size s.chg.size,λi hi hn=>by
   rw[s.chg.block i (yaj hi k.size) (by grind)]
   exact k.block i hi xaa⟩,by
   rcases s.row with c|⟨r,c,av⟩
   ·exact .inl c
   ·exact .inr ⟨r,c,yan k.size av⟩⟩
theorem StQ.far{I}(s:StQ Q R w (some aA) W')(aT:I<w.heap.size)(C:R≠some I):aA≠I:=by
 rcases s.row with c|⟨r,c,av⟩<;>grind
theorem CK(w N Z ad m1 af cap m3 aj base vs a n)(h:w.ownsRow base 40 6 (.slice Z vs.length cap) vs.length (fW vs))(hb:base<=w.heap.size)(hn:vs.length<=900000)(F:a<0):
  Calls prog 164 #[eX N m1 af Z vs.length cap ad m3 aj,hF a,hF n] w λe J=>∃aA cap',e=.returned (.tuple #[eX N m1 af (some ⟨aA,0,none⟩) (vs.length+1) cap' ad m3 aj,hF (vs.length:Nat)])/\J.ownsRow base 40 6 (hE aA (vs.length+1) cap') (vs.length+1) (fW (vs++[eK 1 n 0 0 0]))/\StQ (λ_=>False) (Value.slice Z vs.length cap).ownBlock w (some aA) J:=by
 have am:=ez 0 0 w (eZ N m1 af Z vs.length cap ad m3 aj);have an:=ez 0 0 (w.alloc (eZ N m1 af Z vs.length cap ad m3 aj)) fE;have bl:=(fO w _ _ _).keep an
 have aU:SG _ _ _ _ _ _ _ _ _ _ _ _ _:=
  ⟨bl.sz,λo=>by simp,bl.q0,bl.q1,bl.q2,eW h (am.trans an),rfl,λe=>hO ((eI h e).2),by simp;omega⟩
 have bB:=gg (w.alloc (eZ N m1 af Z vs.length cap ad m3 aj));rw[show(w.alloc _).heap.size=w.heap.size+1 by simp]at bB;have bw:V _:=bB;have au:V _:=aU;have HK:V _:=am.trans an;have HR:V (∀I,w.heap.size<=I->(Value.slice Z _ _).ownBlock≠some I):=λI aT e=>hO ((eI h e).2)
 have bi:=aU.c0;have a5:=aU.c1;have p2:=aU.c2;have bH:=aU.free;clear h am an bl aU bB;go_enter func164,ntmps164;go_upto_region 3 with fail;generalize (w.alloc _).alloc _=B at bw au HK bi a5 p2 bH⊢;go_cut [] (λbp=>∃aA cap',V (SG bp w.heap.size N m1 af ad m3 aj (vs++[eK 1 n 0 0 0]) base (some aA) (some ⟨aA,0,none⟩) cap'/\StQ (λi=>i=w.heap.size) (Value.slice Z vs.length cap).ownBlock B (some aA) bp))
 case first=>
  go_region_with (first
   |(go_at_call 37;refine yai (SG.call au.o ((eG B).trans am) (eK 1 n 0 0 0) xaa) ?_;rintro e ag ⟨aA,cap',rfl,⟨u0,bo⟩,⟨u1,az⟩,⟨u2,aZ⟩,ai,aD⟩)
   |(go_at_call 57;refine yai (oW _ _) ?_;rintro e aG ⟨rfl,am⟩;obtain⟨_,_,aW,aq,aN,_,_,_,_⟩:=SG.keep au.o ((eG B).trans am)))
  all_goals (go_wp2_with fail;go_meet;exact⟨aA,cap',aD⟩)
 case rest=>
  obtain⟨aA,cap',aD⟩:=hcut;have ah:(vs++[eK 1 n 0 0 0]).length=vs.length+1:=by simp
  obtain⟨aS,bb,bq,bD,bg,C,s,t,v⟩:=aD.o.1;have g:(Value.slice Z _ _).ownBlock≠some (w.heap.size+1):=λe=>HR.o _ xaa e;have S:V _:=RB.stq bw.o aD.o.2 xaa g;rw[ah]at bD C;have HO:V _:=C;clear aS bb C s t v bi a5 p2 bH;have aF:V _:=λW=>je W N (some ⟨aA,0,none⟩) ad m1 af (vs.length+1) cap' m3 aj xaa;rw[show((vs.length+1:Nat):Int)-1=vs.length by omega]at aF;have j:V (∀W,Kept 0 0 _ W->SG W _ _ _ _ _ _ _ _ _ _ _ _/\RB W _ _ _ _):=λW k=>⟨aD.o.1.keep k,RB.keep S.o k⟩
  have ar:V (∀W,Kept 0 0 _ W->(fF W _ (.slice N m1 af) (hE aA (vs.length+1) cap') (.slice ad m3 aj)).ownsRow _ _ 6 _ _ _/\StQ _ _ w _ (fF W _ (.slice N m1 af) (hE aA (vs.length+1) cap') (.slice ad m3 aj))):=λW k=>by
   have ca:=aD.o.2.far bw.o.sz g
   have f:(hE _ (vs.length+1) cap').ownBlock≠some _:=λc=>ca (by simpa[Value.ownBlock] using c)
   refine⟨eJ (eJ (eJ (eW HO.o k) f) f) f,?_⟩
   exact((aD.o.2.drop HK.o yad).keepQ k).new (fh W (w.heap.size+1) _ _ _) xaa
  clear bw au S HO HR g;go_upto_region 4 with fail
  go_region_with (first
   |(go_at_call 40;refine yai (aF.o _) ?_;rintro e a8 ⟨rfl,aJ⟩;obtain⟨⟨_,_,aW,aq,aN,_,_,_,_⟩,⟨_,bf,aO,aX,bI,bL,bM⟩⟩:=j.o a8 ((eG wc).trans aJ);rw[ah]at aq;have cQ:V _:=ar.o a8 ((eG wc).trans aJ)))
  all_goals
   go_wp2_with fail
   obtain⟨bd,aR,aV⟩:=fg a8 (w.heap.size+1) _ _ _ bf aO aX (.slice N m1 af) (hE aA (vs.length+1) cap') (.slice ad m3 aj)
   refine yay (v:=.tuple #[eX N m1 af (some ⟨aA,0,none⟩) (vs.length+1) cap' ad m3 aj,hF (vs.length:Nat)]) (by simp[results,results164,go_sem,bd,aR,aV]) rfl ⟨aA,cap',rfl,cQ.o.1,cQ.o.2⟩
def MvP(w:World)(b1:Option Addr)(m1 e1:Nat)(b3:Option Addr)(m3 e3:Nat)(vs:List Vl)(base:Nat)(R:Option Nat)(M:List Vl×Int)(e:Ending)(w':World):Prop:=
 ∃a2' cap' R',e=.returned (.tuple #[eX b1 m1 e1 a2' (vs++M.1).length cap' b3 m3 e3,.int .i64 M.2])/\w'.ownsRow base 40 6 (.slice a2' (vs++M.1).length cap') (vs++M.1).length (fW (vs++M.1))/\(Value.slice a2' (vs++M.1).length cap').ownBlock=R'/\StQ (λ_=>False) R w R' w'
theorem At.stq{W o v}(t:At W p o v)(ah:p<W.heap.size)(s:StQ (λi=>i=P) R W R' W')(aF:p≠P)(C:R≠some p):At W' p o v:=by
 have hn:¬((λi=>i=P) p\/R=some p):=by grind
 have e:∀o,_:=λo=>s.chg.cell (p:=⟨p,o,none⟩) ah hn;obtain⟨a7,aK,aP,b3,ap,aC⟩:=t;exact⟨by grind,by grind,by grind,by grind,by grind,by grind⟩
theorem StQ.seq{f W g}(a:StQ Q R w R' W)(b:StQ f R' W g W')(h:∀i,i<w.heap.size->¬f i):StQ Q R w g W' where
 chg:=⟨b.chg.os.trans a.chg.os,b.chg.tape.trans a.chg.tape,b.chg.output.trans a.chg.output,yan a.chg.size b.chg.size,λk O hn=>by
  rw[b.chg.block k (yaj O a.chg.size) ?_]
  ·exact a.chg.block k O hn
  ·rintro (c|c)
   ·grind
   ·rcases a.row with e|⟨r,e,av⟩<;>grind⟩
 row:=by
  rcases b.row with e|⟨r,e,av⟩
  ·rw[e];exact a.row
  exact .inr ⟨r,e,yan a.chg.size av⟩
structure MS(w W:World)(b1:Option Addr)(m1 e1:Nat)(b3:Option Addr)(m3 e3:Nat)(vs:List Vl)(v:Vl)(base:Nat)(R R':Option Nat)(a2:Option Addr)(cap:Nat):Prop where
 g:SG W w.heap.size b1 m1 e1 b3 m3 e3 vs base R' a2 cap
 b:RB W (w.heap.size+1) (.slice none 0 0) (.slice none 0 0) (.slice none 0 0)
 v:At W (w.heap.size+1+1) 0 v
 lt:w.heap.size+1+1<W.heap.size
 n1:R'≠some (w.heap.size+1)
 n2:R'≠some (w.heap.size+1+1)
 s:StQ (λ_=>False) R w R' W
theorem MS.keep{W v}(h:MS w W N m1 af ad m3 aj vs v base R R' Z cap)(k:Kept 0 0 W W'):MS w W' N m1 af ad m3 aj vs v base R R' Z cap:=
 ⟨h.g.keep k,h.b.keep k,h.v.keep h.lt k yaa,yaj h.lt k.size,h.n1,h.n2,h.s.keepQ k⟩
theorem MS.start(v)(h:w.ownsRow base 40 6 (.slice Z vs.length cap) vs.length (fW vs))(hb:base<=w.heap.size):
  MS w (((w.alloc (eZ N m1 af Z vs.length cap ad m3 aj)).alloc fE).alloc (eM v.op v.len v.a v.b v.c v.k)) N m1 af ad m3 aj vs v base (Value.slice Z vs.length cap).ownBlock (Value.slice Z vs.length cap).ownBlock Z cap:=by
 have am:=ez 0 0 w (eZ N m1 af Z vs.length cap ad m3 aj);have an:=ez 0 0 (w.alloc (eZ N m1 af Z vs.length cap ad m3 aj)) fE;have aJ:=ez 0 0 ((w.alloc (eZ N m1 af Z vs.length cap ad m3 aj)).alloc fE) (eM v.op v.len v.a v.b v.c v.k);have bl:=((fO w _ _ _).keep an).keep aJ;have C:∀I,w.heap.size<=I->(Value.slice Z _ _).ownBlock≠some I:=λI aT e=>hO ((eI h e).2)
 have bB:=gg (w.alloc (eZ N m1 af Z vs.length cap ad m3 aj));rw[show(w.alloc _).heap.size=w.heap.size+1 by simp]at bB;have ak:=me ((w.alloc (eZ N m1 af Z vs.length cap ad m3 aj)).alloc fE) v;rw[show((w.alloc _).alloc _).heap.size=w.heap.size+1+1 by simp]at ak;exact⟨⟨bl.sz,λo=>by rw[(an.trans aJ).frozen xac xaa];simp,bl.q0,bl.q1,bl.q2,eW h ((am.trans an).trans aJ),rfl,C _ yad,by simp;omega⟩,bB.keep aJ,ak,by simp,C _ xaa,C _ xaa,(StQ.refl _ _ w).keepQ ((am.trans an).trans aJ)⟩
theorem MS.next{W ag v}(h:MS w W N m1 af ad m3 aj vs v base R R' Z cap)(k:Kept 0 0 W ay)
  (own:ag.ownsRow base 40 6 (hE aA (vs.length+1) cap') (vs.length+1) (fW (vs++[u]))) (s:StQ (λ_=>False) R' ay (some aA) ag):
  (∃u,ag.cell? ⟨w.heap.size,0,none⟩=some u)/\(∃u,ag.cell? ⟨w.heap.size,1,none⟩=some u)/\(∃u,ag.cell? ⟨w.heap.size,2,none⟩=some u)/\(∀o,ag.frozen? ⟨w.heap.size,o,none⟩=false)/\At ag (w.heap.size+1+1) 0 v/\
   V (MS w (fF ag w.heap.size (.slice N m1 af) (hE aA (vs.length+1) cap') (.slice ad m3 aj)) N m1 af ad m3 aj (vs++[u]) v base R (some aA) (some ⟨aA,0,none⟩) cap'):=by
 have B:=h.g.keep k;obtain⟨aK,aP⟩:=h.g.put k own s;have hb:=s.chg.block _ B.lt (by rintro (c|c);exact c;exact h.g.ne c);have e:∀o,_:=λo=>World.cell?_of_block (a:=⟨w.heap.size,o,none⟩) hb;have j:∀o,_:=λo=>World.frozen?_of_block (a:=⟨w.heap.size,o,none⟩) hb
 have aM:At ag (w.heap.size+1+1) 0 v:=by
  have ah:=yaj h.lt k.size;have am:∀o,_:=λo=>s.chg.cell (p:=⟨_,o,none⟩) ah (by rintro (c|c);exact c;exact h.n2 c);obtain⟨a7,aK,aP,b3,ap,aC⟩:=h.v.keep h.lt k yaa;exact⟨by grind,by grind,by grind,by grind,by grind,by grind⟩
 exact⟨⟨_,(e 0).trans B.c0⟩,⟨_,(e 1).trans B.c1⟩,⟨_,(e 2).trans B.c2⟩,λo=>by rw[j];exact B.free o,aM,aK,h.b.stq aP xaa h.n1,h.v.stq h.lt aP xaa h.n2,yaj h.lt aP.chg.size,
  λc=>aP.far (Nat.lt_trans yae h.lt) h.n1 (by simpa using c),λc=>aP.far h.lt h.n2 (by simpa using c),h.s.seq aP (λi hi c=>by omega)⟩
theorem MS.call{w W ay m1 af m3 aj base cap N ad Z vs v R R'}(h:MS w W N m1 af ad m3 aj vs v base R R' Z cap)(k:Kept 0 0 W ay)(u)(hn:vs.length<=1000000):
  Calls prog 37 #[eX N m1 af Z vs.length cap ad m3 aj,u.agg] ay λe ag=>∃aA cap',e=.returned (eX N m1 af (some ⟨aA,0,none⟩) (vs.length+1) cap' ad m3 aj)/\
   (∃u,ag.cell? ⟨w.heap.size,0,none⟩=some u)/\(∃u,ag.cell? ⟨w.heap.size,1,none⟩=some u)/\(∃u,ag.cell? ⟨w.heap.size,2,none⟩=some u)/\(∀o,ag.frozen? ⟨w.heap.size,o,none⟩=false)/\At ag (w.heap.size+1+1) 0 v/\
   V (MS w (fF ag w.heap.size (.slice N m1 af) (hE aA (vs.length+1) cap') (.slice ad m3 aj)) N m1 af ad m3 aj (vs++[u]) v base R (some aA) (some ⟨aA,0,none⟩) cap'):=by
 have B:=h.g.keep k;refine(rN _ _ _ _ _ _ _ _ _ _ _ u B.own B.sz hn).mono ?_;exact xjf
theorem MS.orNone{W v}(h:MS w W N m1 af ad m3 aj vs v base R R' Z cap)(k:Kept 0 0 W ay)(a n)(F:a<0)(hn:vs.length<=900000):
  Calls prog 164 #[eX N m1 af Z vs.length cap ad m3 aj,hF a,hF n] ay λe ag=>∃aA cap',e=.returned (.tuple #[eX N m1 af (some ⟨aA,0,none⟩) (vs.length+1) cap' ad m3 aj,hF (vs.length:Nat)])/\
   (∃u,ag.cell? ⟨w.heap.size,0,none⟩=some u)/\(∃u,ag.cell? ⟨w.heap.size,1,none⟩=some u)/\(∃u,ag.cell? ⟨w.heap.size,2,none⟩=some u)/\(∀o,ag.frozen? ⟨w.heap.size,o,none⟩=false)/\At ag (w.heap.size+1+1) 0 v/\
   V (MS w (fF ag w.heap.size (.slice N m1 af) (hE aA (vs.length+1) cap') (.slice ad m3 aj)) N m1 af ad m3 aj (vs++[eK 1 n 0 0 0]) v base R (some aA) (some ⟨aA,0,none⟩) cap'):=by
 have B:=h.g.keep k;refine(CK _ _ _ _ _ _ _ _ _ _ _ a n B.own B.sz hn F).mono ?_;exact xjf
theorem MS.orSome{W v}(h:MS w W N m1 af ad m3 aj vs v base R R' Z cap)(k:Kept 0 0 W ay)(a n)(F:0<=a):
  Calls prog 164 #[eX N m1 af Z vs.length cap ad m3 aj,hF a,hF n] ay λe ag=>e=.returned (.tuple #[eX N m1 af Z vs.length cap ad m3 aj,hF a])/\
   (∃u,ag.cell? ⟨w.heap.size,0,none⟩=some u)/\(∃u,ag.cell? ⟨w.heap.size,1,none⟩=some u)/\(∃u,ag.cell? ⟨w.heap.size,2,none⟩=some u)/\(∀o,ag.frozen? ⟨w.heap.size,o,none⟩=false)/\At ag (w.heap.size+1+1) 0 v/\
   V (MS w (fF ag w.heap.size (.slice N m1 af) (.slice Z vs.length cap) (.slice ad m3 aj)) N m1 af ad m3 aj vs v base R R' Z cap):=by
 refine(CJ _ _ _ _ _ _ _ _ _ _ a n F).mono ?_;rintro e ag ⟨rfl,an⟩;have U:=h.keep (k.trans an);have K:=fh ag w.heap.size (.slice N m1 af) (.slice Z vs.length cap) (.slice ad m3 aj);obtain⟨bd,aR,aV⟩:=fg _ _ _ _ _ U.g.c0 U.g.c1 U.g.c2 (.slice N m1 af) (.slice Z vs.length cap) (.slice ad m3 aj);have f:(Value.slice Z vs.length cap).ownBlock≠some w.heap.size:=hR U.g.row U.g.ne
 have cp:∀I o,I≠w.heap.size->I<ag.heap.size->(fF ag _ _ _ _).cell? _=ag.cell? ⟨I,o,none⟩:=λI o aT ah=>K.cell ah (by grind);have j:∀I o,I≠w.heap.size->I<ag.heap.size->(fF ag _ _ _ _).frozen? _=ag.frozen? ⟨I,o,none⟩:=λI o aT ah=>K.frozen ah (by grind);obtain⟨a0,bf,aO,aX,bI,bL,bM⟩:=U.b;obtain⟨av,ba,bc,z,aa,ap⟩:=U.v
 refine⟨rfl,⟨_,U.g.c0⟩,⟨_,U.g.c1⟩,⟨_,U.g.c2⟩,U.g.free,U.v,⟨yaj U.g.lt K.size,λo=>?_,bd,aR,aV,eJ (eJ (eJ U.g.own f) f) f,U.g.row,U.g.ne,yan U.g.sz K.size⟩,
  ⟨yaj a0 K.size,by grind,by grind,by grind,by grind,by grind,by grind⟩,
  ⟨by rw[cp _ _ xaa U.lt];exact av,by rw[cp _ _ xaa U.lt];exact ba,by rw[cp _ _ xaa U.lt];exact bc,by rw[cp _ _ xaa U.lt];exact z,by rw[cp _ _ xaa U.lt];exact aa,by rw[cp _ _ xaa U.lt];exact ap⟩,yaj U.lt K.size,U.n1,U.n2,U.s.new K yad⟩
 unfold fF;simp[U.g.free o]
theorem MS.fin{W vs0 v M}(h:MS w W N m1 af ad m3 aj vs v base R R' Z cap)(k:Kept 0 0 W W')(aM:vs=vs0++M.1):
  MvP w N m1 af ad m3 aj vs0 base R M (.returned (.tuple #[eX N m1 af Z vs.length cap ad m3 aj,hF M.2])) (fF W' (w.heap.size+1) (.slice N m1 af) (.slice Z vs.length cap) (.slice ad m3 aj)):=by
 exact xfp
theorem mi(w:World)(P I o x y z)(h:I≠P):(((w.setCell ⟨P,0,none⟩ x).setCell ⟨P,1,none⟩ y).setCell ⟨P,2,none⟩ z).cell? ⟨I,o,none⟩=w.cell? ⟨I,o,none⟩:=by
 exact xij
end
section
def pz(n:Nat):Code->Option Code
 |.region i ops d=>if i=n then some (.region i ops d)else none
 |.seq a b=>match pz n a with
  |some c=>some c
  |none=>pz n b
 |.cond _ a b=>match pz n a with
  |some c=>some c
  |none=>pz n b
 |.block _ c=>pz n c
 |.scope c=>pz n c
 |.loop c=>pz n c
 |_=>none
noncomputable def PL (n:Nat):Code:=(Tryz.f163.body.bind (pz n)).getD .skip
theorem fH{P}{c:Code}{K Q a w}(h:c.wp P (Exit.then K λ_ _ _=>False) a w):c.wp P (Exit.then K Q) a w:=by
 exact xkd
variable{w W:World}{N ad Z:Option Addr}{m1 af cap m3 aj base aC i:Nat}{vs:List Vl}{v:Vl}{bK:Int}{R R':Option Nat}
structure MvH(w:World)(cap base g2 i:Nat)(vs:List Vl)(v:Vl):Prop where
 h:w.ownsRow base 40 6 (.slice (some ⟨g2,0,none⟩) vs.length cap) vs.length (fW vs)
 hb:base<=w.heap.size
 hn:vs.length<=800000
 hi:i<vs.length
 hv:At w g2 (i*6) v
theorem MvH.op(H:MvH w cap base aC i vs v)(N ad m1 af m3 aj):At w aC (i*6) v/\0<=(i:Int)/\(i:Int)<vs.length/\aC<w.heap.size/\∃B,
  V (((w.alloc (eZ N m1 af (some ⟨aC,0,none⟩) vs.length cap ad m3 aj)).alloc fE).alloc (eM v.op v.len v.a v.b v.c v.k)=B)/\vs.length<=800000/\V (MS w B N m1 af ad m3 aj vs v base (some aC) (some aC) (some ⟨aC,0,none⟩) cap)/\V (w.ownsRow base 40 6 (hE aC vs.length cap) vs.length (fW vs)):=
 ⟨H.hv,by omega,hO H.hi,(eI H.h (k:=aC) rfl).2,_,rfl,H.hn,MS.start v H.h H.hb,H.h⟩
theorem MS.lst(h:MS w W N m1 af ad m3 aj vs v base R R' Z cap)(hn:vs.length<=1000000)(bB:(vs.length:Int)-1=bK):Calls prog 40 #[eX N m1 af Z vs.length cap ad m3 aj] W λe J=>e=.returned (hF bK)/\V (MS w J N m1 af ad m3 aj vs v base R R' Z cap):=
 (je W N Z ad m1 af vs.length cap m3 aj hn).mono λ_ _ q=>⟨bB ▸ q.1,h.keep q.2⟩
def MpR(w:World)(b1:Option Addr)(m1 e1:Nat)(b3:Option Addr)(m3 e3:Nat)(vs:List Vl)(v:Vl)(base:Nat)(R:Option Nat)(x:Vl)(W':World):Prop:=
 ∃us g' cap',V (us=vs++[x]/\us.length=vs.length+1)/\us.length<=vs.length+1/\V (MS w W' b1 m1 e1 b3 m3 e3 us v base R (some g') (some ⟨g',0,none⟩) cap')
def MfK(R:World->Prop)(p0 p1 p2 p3 p4 p5 p6 p7 p8 p9 p10 p12 p13 p14 p15 p16 p17 p18 p19 q11:Value)(K:Act->World->Prop):Prop:=∀{a b c d e f g h i j k l m n o p q r s t u v w x y z A B C D E F G H I J L M N O P Q S T U Vaa W X Y Z aa ab ad ae af ag ah ai aj ak al am an ao ap aq ar au av aw ax ay az aA aB aC aD aE aF aG aH aI aJ aK aL aM aN aO aP aQ aR aS aT aU aV aW aX aY aZ a0 a1 a2 a3 a4 a5 a6 a7 a8 a9 ba bb bc bd be bf bg bh bi bj bk bl bm bn bo bp bq br bs bt bu bv bw bx bz bA bB bC bD bE bF bG bH bI bJ bK bL bM bN bO bP bQ bR bS bT bU bV bW bX bY bZ b0 b1 b2 b3 b4 b5 b6 b7 b8 b9 ca cb cc cd ce cf cg ch ci cj ck cl cm cn co cp cq cr cs ct cu cv cw cx cy cz cA cB cC cD cE cF cG cH cI cJ cK cL cM cN cO cP cQ cR cS cT cU cV cW cX cY cZ c0 c1 c2 c3 c4 c5 c6 c7 c8 c9 da db dc dd de df:Value} (W':World),R W'->K ⟨#[p0,p1,p2,p3,p4,p5,p6,p7,p8,p9,p10,q11,p12,p13,p14,p15,p16,p17,p18,p19,a,b,c,d,e,f,g,h,i,j,k,l,m,n,o,p,q,r,s,t,u,v,w,x,y,z,A,B,C,D,E,F,G,H,I,J,L,M,N,O,P,Q,S,T,U,Vaa,W,X,Y,Z,aa,ab,ad,ae,af,ag,ah,ai,aj,ak,al,am,an,ao,ap,aq,ar,au,av,aw,ax,ay,az,aA,aB,aC,aD,aE,aF,aG,aH,aI,aJ,aK,aL,aM,aN,aO,aP,aQ,aR,aS,aT,aU,aV,aW,aX,aY,aZ,a0,a1,a2,a3,a4,a5,a6,a7,a8,a9,ba,bb,bc,bd,be,bf,bg,bh,bi,bj,bk,bl,bm,bn,bo,bp,bq,br,bs,bt,bu,bv,bw,bx,bz,bA,bB,bC,bD,bE,bF,bG,bH,bI,bJ,bK,bL,bM,bN,bO,bP,bQ,bR,bS,bT,bU,bV,bW,bX,bY,bZ,b0,b1,b2,b3,b4,b5,b6,b7,b8,b9,ca,cb,cc,cd,ce,cf,cg,ch,ci,cj,ck,cl,cm,cn,co,cp,cq,cr,cs,ct,cu,cv,cw,cx,cy,cz,cA,cB,cC,cD,cE,cF,cG,cH,cI,cJ,cK,cL,cM,cN,cO,cP,cQ,cR,cS,cT,cU,cV,cW,cX,cY,cZ,c0,c1,c2,c3,c4,c5,c6,c7,c8,c9,da,db,dc,dd,de,df],[]⟩ W'
def MfC(n:Nat)(W:World)(R:World->Prop)(a b c d e f g h i j k u l m o p q r s t v:Value):Prop:=
 ∀{K:Act->World->Prop}{w x y z A B C D E F G H I J L M N O P Q S T U Vaa X Y Z aa ab ad ae af ag ah ai aj ak al am an ao ap aq ar au av aw ax ay az aA aB aC aD aE aF aG aH aI aJ aK aL aM aN aO aP aQ aR aS aT aU aV aW aX aY aZ a0 a1 a2 a3 a4 a5 a6 a7 a8 a9 ba bb bc bd be bf bg bh bi bj bk bl bm bn bo bp bq br bs bt bu bv bw bx bz bA bB bC bD bE bF bG bH bI bJ bK bL bM bN bO bP bQ bR bS bT bU bV bW bX bY bZ b0 b1 b2 b3 b4 b5 b6 b7 b8 b9 ca cb cc cd ce cf cg ch ci cj ck cl cm cn co cp cq cr cs ct cu cv cw cx cy cz cA cB cC cD cE cF cG cH cI cJ cK cL cM cN cO cP cQ cR cS cT cU cV cW cX cY cZ c0 c1 c2 c3 c4 c5 c6 c7 c8 c9 da db dc dd de df dg dh di dj dk dl dm dn dp dq dr ds dt du dv dw dx dy dz dA dB dC dD:Value},MfK R a b c d e f g h i j k l m o p q r s t v K->Code.wp prog (PL n) (Exit.then K λ_ _ _=>False) ⟨#[a,b,c,d,e,f,g,h,i,j,k,u,l,m,o,p,q,r,s,t,w,x,y,z,A,B,C,D,E,F,G,H,I,J,L,M,N,O,P,Q,S,T,U,Vaa,X,Y,Z,aa,ab,ad,ae,af,ag,ah,ai,aj,ak,al,am,an,ao,ap,aq,ar,au,av,aw,ax,ay,az,aA,aB,aC,aD,aE,aF,aG,aH,aI,aJ,aK,aL,aM,aN,aO,aP,aQ,aR,aS,aT,aU,aV,aW,aX,aY,aZ,a0,a1,a2,a3,a4,a5,a6,a7,a8,a9,ba,bb,bc,bd,be,bf,bg,bh,bi,bj,bk,bl,bm,bn,bo,bp,bq,br,bs,bt,bu,bv,bw,bx,bz,bA,bB,bC,bD,bE,bF,bG,bH,bI,bJ,bK,bL,bM,bN,bO,bP,bQ,bR,bS,bT,bU,bV,bW,bX,bY,bZ,b0,b1,b2,b3,b4,b5,b6,b7,b8,b9,ca,cb,cc,cd,ce,cf,cg,ch,ci,cj,ck,cl,cm,cn,co,cp,cq,cr,cs,ct,cu,cv,cw,cx,cy,cz,cA,cB,cC,cD,cE,cF,cG,cH,cI,cJ,cK,cL,cM,cN,cO,cP,cQ,cR,cS,cT,cU,cV,cW,cX,cY,cZ,c0,c1,c2,c3,c4,c5,c6,c7,c8,c9,da,db,dc,dd,de,df,dg,dh,di,dj,dk,dl,dm,dn,dp,dq,dr,ds,dt,du,dv,dw,dx,dy,dz,dA,dB,dC,dD],[]⟩ W
end
section
attribute[local go_sem] eF eE eD
variable{w:World}{N ad Z:Option Addr}{m1 af m3 aj base cap m:Nat}{vs:List Vl}{o G g f l S:Int}{R R':Option Nat}{c0 c1 c2 c4 x y Y X h j I U O s u v:Value}
theorem Lq{W an}(ae:V (MS w W N m1 af ad m3 aj vs ⟨o,G,g,f,l,m⟩ base R R' Z cap))(aH:vs.length<=900000):MfC 5 W (MpR w N m1 af ad m3 aj vs ⟨o,G,g,f,l,m⟩ base R (eK o G an S 0)) c0 c1 (hF an) (hF S) c4 (hD w.heap.size) x y Y X h j (hD (w.heap.size+1+1)) (hF G) I U O s u v j:=by
 unfold MfC;intros;rename_i HK;have bg:V (∀ay,Kept 0 0 W ay->_):=λay k=>MS.call ae.o k (eK o G an S 0) xaa;have aW:=ae.o.g.c0;have aq:=ae.o.g.c1;have aN:=ae.o.g.c2;have av:=ae.o.v.c0;exact xad
theorem Ms{W}(ae:V (MS w W N m1 af ad m3 aj vs ⟨o,G,g,f,l,m⟩ base R R' Z cap))(aH:vs.length<=900000):MfC 10 W (MpR w N m1 af ad m3 aj vs ⟨o,G,g,f,l,m⟩ base R (eK 6 G S 0 0)) c0 c1 c2 (hF S) c4 (hD w.heap.size) x y Y X h j (hD (w.heap.size+1+1)) (hF G) I U O s u v j:=by
 unfold MfC;intros;rename_i HK;have bg:V (∀ay,Kept 0 0 W ay->_):=λay k=>MS.call ae.o k (eK 6 G S 0 0) xaa;exact xae
theorem E7{W p q i c3}(ae:V (MS w W N m1 af ad m3 aj vs ⟨o,G,g,f,l,m⟩ base R R' Z cap))(aH:vs.length<=900000):MfC 30 W (MpR w N m1 af ad m3 aj vs ⟨o,G,g,f,l,m⟩ base R (eK i G p q 0)) c0 c1 c2 c3 c4 (hD w.heap.size) x y Y X h j (hD (w.heap.size+1+1)) (hF G) (hF p) (hF q) (hF i) s u v j:=by
 unfold MfC;intros;rename_i HK;have bg:V (∀ay,Kept 0 0 W ay->_):=λay k=>MS.call ae.o k (eK i G p q 0) xaa;exact xae
