import Derived.Test.YtamokkcfibdghaaGreatP11
namespace Go.Proofs.Z
open Tryz Go.RowKit Flt
set_option maxRecDepth 1000000
set_option maxHeartbeats 0
section
attribute [local go_sem] eG eE eD
variable {q k p P m1 l ae m3 ak base aG cap cap':Nat}{Q:Nat->Prop}{w W' aD J m:World}{r:Int}{y u:Vl}{aa R':Option Nat}{N ab a2:Option Addr}{vs:List Vl}
def mvM (i:Int)(v:Vl)(ta tb tc:Int)(N:Nat):List Vl×Int:=
 if ta=-1/\tb=-1/\tc=-1 then ([],-1)
 else if v.op=2 then yJ v.len ta tb N
 else if v.op=3 then yK v.len ta tb N
 else if v.op=4 then yL v ta tb N
 else if v.op=5 then yM i v ta tb N
 else if v.op=7 then ([eL 3 v.len v.a v.b 0]++(chM v.len N ta tb (N+1)).1,(chM v.len N ta tb (N+1)).2)
 else if v.op=8 then (if tb=-1/\tc=-1 then ([],-1)else chM v.len v.a tb tc N)
 else if v.op=13 then ([eL 4 v.len ta i 0],(N:Int))
 else ([eL v.op v.len ta 0 v.c],(N:Int))
def ovs (v:Vl)(mv:List Int)(q j:Nat):Int:=if j<q then mv.getD (fld v j).toNat 0 else -1
theorem CZ(v)(aq:q<cnt v.op):(eW v).getD q 0=[v.a,v.b,v.c].getD q 0:=by
 simp_all [eW]
theorem I5(v)(aq:q<3):fld v q=[v.a,v.b,v.c].getD q 0:=by
 rcases (by omega:q=0\/q=1\/q=2) with rfl|rfl|rfl<;>rfl
theorem two{b c}(h:¬(b=-1/\c=-1)):((b==-1)=false)\/((b==-1)=true/\(c==-1)=false):=by
 grind
def lJ (k n:Nat):List Int:=List.replicate k (-1)++List.replicate (n-k) 0
theorem uV(k n)(h:k<=n):(lJ k n).length=n:=by simp[lJ];omega
theorem uW(n):lJ n n=List.replicate n (-1):=by simp[lJ]
theorem uX{n}(h:k<n):(lJ k n).set k (-1)=lJ (k+1) n:=by
 apply List.ext_getElem?;intro j;unfold lJ;grind
def jmv (vs0:List Vl)(i:Nat)(st:List Vl×List Int):List Vl×Int:=
 mvM (i:Int) (vs0.getD i hM) (ovs (vs0.getD i hM) st.2 (cnt (vs0.getD i hM).op) 0) (ovs (vs0.getD i hM) st.2 (cnt (vs0.getD i hM).op) 1) (ovs (vs0.getD i hM) st.2 (cnt (vs0.getD i hM).op) 2) st.1.length
def jst (vs0:List Vl)(x t:Nat):Nat->List Vl×List Int
 |0=>(vs0,(List.replicate vs0.length (-1)).set x (t:Int))
 |k+1=>((jst vs0 x t k).1++(jmv vs0 (x+1+k) (jst vs0 x t k)).1,(jst vs0 x t k).2.set (x+1+k) (jmv vs0 (x+1+k) (jst vs0 x t k)).2)
theorem wU(vs0 x t):∀k,(jst vs0 x t k).2.length=vs0.length
 |0=>by simp[jst]
 |k+1=>by simp[jst,wU vs0 x t k]
theorem wV(vs0 x t):∀k,∃r,(jst vs0 x t k).1=vs0++r
 |0=>⟨[],by simp[jst]⟩
 |k+1=>by
  obtain⟨r,h⟩:=wV vs0 x t k
  grind [jst]
theorem BP(vs0 x t k){i}(hi:i<vs0.length):(jst vs0 x t k).1.getD i hM=vs0.getD i hM:=by
 obtain⟨r,h⟩:=wV vs0 x t k;grind
def Sz (k:Nat)(M:List Vl×Int):Prop:=M.1.length<=k/\0<=fe M.1/\fe M.1<=1000*(k:Int)
theorem iY{p}[Decidable p]{a b}(G:Sz k a)(hb:Sz k b):Sz k (if p then a else b):=by
 grind
theorem AI:Sz k ([],r):=by grind [Sz,fe]
theorem wW{v}(O:1<=k)(aj:0<=v.len)(B:v.len<=1000):Sz k ([v],r):=by grind [Sz,fe]
theorem OW{v}(O:2<=k)(aj:0<=v.len)(B:v.len<=1000)(R:0<=u.len)(h3:u.len<=1000):Sz k ([v,u],r):=by grind [Sz,fe]
theorem Mz{v}(O:3<=k)(aj:0<=v.len)(B:v.len<=1000)(R:0<=u.len)(h3:u.len<=1000)(a8:0<=y.len)(bQ:y.len<=1000):Sz k ([v,u,y],r):=by grind [Sz,fe]
theorem PW{v z}(O:4<=k)(aj:0<=v.len)(B:v.len<=1000)(R:0<=u.len)(h3:u.len<=1000)(a8:0<=y.len)(bQ:y.len<=1000)(bV:0<=z.len)(aA:z.len<=1000):Sz k ([v,u,y,z],r):=by grind [Sz,fe]
theorem I6{v M}(h:Sz k M)(aj:0<=v.len)(B:v.len<=1000):Sz (k+1) ([v]++M.1,r):=by
 unfold Sz at*;grind [fe]
theorem LC{n d p q bQ}(aj:0<=n)(B:n<=1000):Sz 3 (chM n d p q bQ):=by
 unfold chM;exact iY (iY (Mz xaa aj B aj B aj B) (OW xaa aj B aj B)) (iY (OW xaa aj B aj B) (wW xaa aj B))
theorem I7{M}(h:Sz k M)(O:k<=l):Sz l M:=by
 unfold Sz at*;omega
theorem Fg(i v ao S aH bQ)(aj:0<=v.len)(B:v.len<=1000):Sz 4 (mvM i v ao S aH bQ):=by
 unfold mvM yJ yK yL yM
 exact iY AI (iY (iY AI (iY AI (wW xaa aj B))) (iY (iY AI (iY (wW xaa aj B) (wW xaa aj B)))
  (iY (iY (iY AI (wW xaa aj B)) (iY (wW xaa aj B) (Mz xaa aj B aj B aj B)))
  (iY (iY (iY AI (Mz xaa aj B aj B aj B)) (iY (wW xaa aj B) (PW xaa aj B aj B aj B aj B)))
  (iY (I6 (LC aj B) aj B) (iY (iY AI (I7 (LC aj B) xaa)) (iY (wW xaa aj B) (wW xaa aj B))))))))
theorem tv(vs0 x t)(ah:∀k,k<vs0.length->1<=(vs0.getD k hM).len/\(vs0.getD k hM).len<=1000)(bH:0<=fe vs0)(ar:fe vs0<=50000):∀k,x+k<vs0.length->(jst vs0 x t k).1.length<=vs0.length+4*k/\0<=fe (jst vs0 x t k).1/\fe (jst vs0 x t k).1<=50000+4000*k
 |0,_=>by simp[jst];omega
 |k+1,O=>by
  have ag:=tv _ x t ah bH ar k xaa
  have aL:=ah (x+1+k) xaa
  have az:=Fg (x+1+k:Nat) (vs0.getD (x+1+k) hM) (ovs (vs0.getD (x+1+k) hM) (jst vs0 x t k).2 (cnt (vs0.getD (x+1+k) hM).op) 0) (ovs (vs0.getD (x+1+k) hM) (jst vs0 x t k).2 (cnt (vs0.getD (x+1+k) hM).op) 1) (ovs (vs0.getD (x+1+k) hM) (jst vs0 x t k).2 (cnt (vs0.getD (x+1+k) hM).op) 2) (jst vs0 x t k).1.length xaa xaa
  rw[jst]
  simp only[yak,tu]
  unfold jmv
  unfold Sz at az
  omega
def j9 (vs0:List Vl)(s x t:Nat):List Vl×Int:=
 if (jst vs0 x t (s-x)).2.getD s 0=-1 then ((jst vs0 x t (s-x)).1++[eL 1 (vs0.getD s hM).len 0 0 0],((jst vs0 x t (s-x)).1.length:Nat))else ((jst vs0 x t (s-x)).1,(jst vs0 x t (s-x)).2.getD s 0)
theorem mR:∀(vs:List Vl),(∀j,j<vs.length->0<=(vs.getD j hM).len)->0<=fe vs
 |[],_=>by simp[fe]
 |v::r,h=>by
  have aj:=h 0 xac
  have B:=mR r (λj hj=>h (j+1) yaf)
  have e:(v::r).getD 0 hM=v:=rfl
  rw[e]at aj
  simp only[fe]
  omega
theorem my{ins}(ok:okV ins vs k=true):∀q,q<cnt (vs.getD k hM).op->0<=fld (vs.getD k hM) q/\fld (vs.getD k hM) q<k:=λq aq=>by
 by_cases aj:(vs.getD k hM).op=0
 ·grind [cnt]
 ·unfold okV at ok
  rw[hJ aj]at ok
  simp only[Bool.and_eq_true]at ok
  have h:=List.all_eq_true.1 ok.2.1 _ (kY (by rw[jP];exact aq))
  have R:=of_decide_eq_true h
  grind [CZ,I5,gK]
def kM (vs:List Vl):Bool:=decide (2000<vs.length\/50000<fe vs)
theorem gQ(w op n a b c):Calls prog 34 #[hI op,hI n,hI a,hI b,hI c] w λe J=>e=.returned (eL op n a b c).agg/\Kept 0 0 w J:=by
 go_enter func34,ntmps34;go_wp2_with fail;refine yay (v:=(eL op n a b c).agg) (by simp[results,results34,go_sem]) rfl ⟨rfl,ez 0 0 w _⟩
theorem oV(w n):Calls prog 51 #[hI n] w λe J=>e=.returned (eL 1 n 0 0 0).agg/\Kept 0 0 w J:=by
 go_enter func51,ntmps51;go_wp2_with fail;refine yay (v:=(eL 1 n 0 0 0).agg) (by simp[results,results51,go_sem]) rfl ⟨rfl,ez 0 0 w _⟩
theorem je(w a1 a2 a3 Y c1 U c2 Z c3)(hn:U<=1000000):Calls prog 35 #[eZ a1 Y c1 a2 U c2 a3 Z c3] w λe J=>e=.returned (hI ((U:Int)-1))/\Kept 0 0 w J:=by
 go_enter func35,ntmps35;go_wp2;go_ret;exact⟨rfl,ez 0 0 w _⟩
theorem I8{aB bo dd v o}(_h:w.ownsRow base 53 6 dd vs.length (fQ vs))(k:Kept 0 0 w aB)
  (bB:bo.ownsRow base 53 6 (hH aG (vs.length+1) cap') (vs.length+1) (fQ vs++v.cells)) (bw:(aB.alloc o).grownBy bo dd.ownBlock) (bg:dd.ownBlock=some aG\/aG=(aB.alloc o).heap.size):
  bo.ownsRow base 53 6 (hH aG (vs.length+1) cap') (vs.length+1) (fQ (vs++[v]))/\StQ (λ_=>False) dd.ownBlock w (some aG) bo:=by
 refine⟨by rw[lH,nZ];exact bB,⟨bw.os.trans k.os,bw.tape.trans k.tape,bw.output.trans k.output,?_,λi hi hn=>?_⟩,?_⟩
 ·have B:=bw.size;have R:=k.size;simp at B;omega
 ·have R:=k.size;rw[bw.block i yaf (λc=>hn (.inr c.symm)),Below.heap_alloc _ o i xaa];exact k.block i hi xaa
 rcases bg with e|e
 ·grind
 have R:=k.size;exact .inr ⟨_,rfl,by rw[e];simp;omega⟩
theorem StQ.new{h}(s:StQ Q aa w R' J)(k:Kept l h J m)(ah:w.heap.size<=l):StQ Q aa w R' m:=
 ⟨⟨k.os.trans s.chg.os,k.tape.trans s.chg.tape,k.output.trans s.chg.output,yan s.chg.size k.size,λi hi hn=>by
   rw[k.block i (yaj hi s.chg.size) xaa]
   exact s.chg.block i hi hn⟩,s.row⟩
theorem rU(w N a2 ab m1 ae cap m3 ak base vs v)(h:w.ownsRow base 53 6 (.slice a2 vs.length cap) vs.length (fQ vs))(hb:base<=w.heap.size)(hn:vs.length<=1000000):
  Calls prog 32 #[eZ N m1 ae a2 vs.length cap ab m3 ak,v.agg] w λe J=>∃aG cap',e=.returned (eZ N m1 ae (some ⟨aG,0,none⟩) (vs.length+1) cap' ab m3 ak)/\J.ownsRow base 53 6 (hH aG (vs.length+1) cap') (vs.length+1) (fQ (vs++[v]))/\StQ (λ_=>False) (Value.slice a2 vs.length cap).ownBlock w (some aG) J:=by
 obtain⟨bK,hi,bU,bO,bR⟩:=info_parts sV;have an:=ez 0 0 w (eY N m1 ae a2 vs.length cap ab m3 ak);have ao:=ez 0 0 (w.alloc (eY N m1 ae a2 vs.length cap ab m3 ak)) (eK v.op v.len v.a v.b v.c v.k);have aM:=ez 0 0 ((w.alloc (eY N m1 ae a2 vs.length cap ab m3 ak)).alloc (eK v.op v.len v.a v.b v.c v.k)) fp;have bq:=((fE w (.slice N m1 ae) (.slice a2 vs.length cap) (.slice ab m3 ak)).keep ao).keep aM
 have j:∀o,(((w.alloc (eY N m1 ae a2 vs.length cap ab m3 ak)).alloc (eK v.op v.len v.a v.b v.c v.k)).alloc fp).frozen? ⟨w.heap.size,o,none⟩=false:=λo=>by
  rw[(ao.trans aM).frozen (p:=⟨w.heap.size,o,none⟩) xac xaa]
  simp
 have z:=(jF (w.alloc (eY N m1 ae a2 vs.length cap ab m3 ak)) v).keep xac aM yaa;have bF:=fY ((w.alloc (eY N m1 ae a2 vs.length cap ab m3 ak)).alloc (eK v.op v.len v.a v.b v.c v.k));rw[show((w.alloc (eY N m1 ae a2 vs.length cap ab m3 ak)).alloc (eK v.op v.len v.a v.b v.c v.k)).heap.size=w.heap.size+1+1 by simp]at bF;rw[show(w.alloc (eY N m1 ae a2 vs.length cap ab m3 ak)).heap.size=w.heap.size+1 by simp]at z;have O:=(an.trans ao).trans aM;have aT:=e8 h O;have bx:V _:=h;have HK:V _:=O;have bD:V _:=bF;have a5:V _:=bq;have cf:V _:=j;obtain⟨_,bk,a8,p2⟩:=bq;obtain⟨ay,bc,bd,bg,Z,s⟩:=z;have i:=yan hb O.size;clear an ao aM j bF O h;go_enter func32,ntmps32;go_wp2_with (first|(at_builtin;refine wpList_append_lies _ rfl _ _ 24 rfl base 53 bK (ii 0 0 0 0 0 0) 6 48 underlying24 hi bU bO bR rfl xab _ _ (fQ vs) rfl (aT.alloc _) ⟨w.heap.size+1+1+1,0,none⟩ 1 1 v.cells rfl rfl ?c1 ?c2 xab ?c3 ?c4 ?c5 _ rfl ?_))
 case c1=>
  have bV:=yG (((w.alloc (eY N m1 ae a2 vs.length cap ab m3 ak)).alloc (eK v.op v.len v.a v.b v.c v.k)).alloc fp) v 0;rw[show(((w.alloc (eY N m1 ae a2 vs.length cap ab m3 ak)).alloc (eK v.op v.len v.a v.b v.c v.k)).alloc fp).heap.size=w.heap.size+1+1+1 by simp]at bV;exact bV
 case c2=>exact CS v
 case c3=>unfold maxLen;omega
 case c4=>omega
 case c5=>simp;omega
 intro g9 cap9 bo bB bw b7 cA;have g:(((w.alloc (eY N m1 ae a2 vs.length cap ab m3 ak)).alloc (eK v.op v.len v.a v.b v.c v.k)).alloc fp).heap.size=w.heap.size+1+1+1:=by simp
 have bu:(Value.slice a2 vs.length cap).ownBlock=some g9\/g9=((((w.alloc (eY N m1 ae a2 vs.length cap ab m3 ak)).alloc (eK v.op v.len v.a v.b v.c v.k)).alloc fp).alloc (.cells #[hI v.op,hI v.len,hI v.a,hI v.b,hI v.c,.float .f64 v.k] 53)).heap.size:=b7.imp id (λe=>by rw[e];simp);obtain⟨aC,a0⟩:=I8 (v:=v) bx.o HK.o bB bw bu;have ad:∀I,w.heap.size<=I->(Value.slice a2 vs.length cap).ownBlock≠some I:=λI aS e=>hR ((eI bx.o e).2)
 have t:g9<w.heap.size\/w.heap.size+1+1+1<g9:=by
  rcases bu with e|e
  ·exact .inl (eI bx.o e).2
  right;rw[e];simp
 have bL:=lI (m:=0) bw (hW g) (ad w.heap.size yad) bk;have bI:=lI (m:=0) bw (hW g) (ad w.heap.size yad) a8;have bJ:=lI (m:=0) bw (hW g) (ad w.heap.size yad) p2;have G:=far2 (m:=0) bw (hW g) (ad w.heap.size yad) (cf.o 1);obtain⟨_,b5,Y,U,S,n,aJ⟩:=bD.o;have bh:=lI (m:=0) bw (hW g) (ad (w.heap.size+1+1) xaa) b5;have aU:=lI (m:=0) bw (hW g) (ad (w.heap.size+1+1) xaa) Y;have aY:=lI (m:=0) bw (hW g) (ad (w.heap.size+1+1) xaa) U;have bM:=far2 (m:=0) bw (hW g) (ad (w.heap.size+1+1) xaa) S;have aZ:=far2 (m:=0) bw (hW g) (ad (w.heap.size+1+1) xaa) n;have be:=far2 (m:=0) bw (hW g) (ad (w.heap.size+1+1) xaa) aJ;have R1:V _:=aC;have R2:V _:=a0;clear aC a0 bB bw b7 bu ad aT bx HK bD a5 cf bk a8 p2 ay bc bd bg Z s i g b5 Y U S n aJ cA;go_wp2_with fail
 have f:∀I,(I=w.heap.size\/I=w.heap.size+1+1)->(hH g9 (vs.length+1) cap9).ownBlock≠some I:=λI aS e=>by
  have C:g9=I:=by simpa[Value.ownBlock] using e
  omega
 have b1:=eJ (o:=2) (u:=.slice ab m3 ak) (eJ (o:=1) (u:=hH g9 (vs.length+1) cap9) (eJ (o:=0) (u:=.slice N m1 ae) (eJ (o:=1) (u:=hH g9 (vs.length+1) cap9) R1.o (f w.heap.size (.inl rfl))) (f (w.heap.size+1+1) (.inr rfl))) (f (w.heap.size+1+1) (.inr rfl))) (f (w.heap.size+1+1) (.inr rfl));have x:(bo.setCell ⟨w.heap.size,1,none⟩ (hH g9 (vs.length+1) cap9)).cell? ⟨w.heap.size+1+1,0,none⟩=_:=(eO _ _ _ _ _ _ (.inl xaa)).trans bh;have B:(bo.setCell ⟨w.heap.size,1,none⟩ (hH g9 (vs.length+1) cap9)).cell? ⟨w.heap.size+1+1,1,none⟩=_:=(eO _ _ _ _ _ _ (.inl xaa)).trans aU;have F:(bo.setCell ⟨w.heap.size,1,none⟩ (hH g9 (vs.length+1) cap9)).cell? ⟨w.heap.size+1+1,2,none⟩=_:=(eO _ _ _ _ _ _ (.inl xaa)).trans aY;obtain⟨s0,ax,aN⟩:=fj (bo.setCell ⟨w.heap.size,1,none⟩ (hH g9 (vs.length+1) cap9)) (w.heap.size+1+1) _ _ _ x B F (.slice N m1 ae) (hH g9 (vs.length+1) cap9) (.slice ab m3 ak);have aO:=StQ.new R2.o (eX (lo:=w.heap.size) (hi:=w.heap.size+1) bo ⟨w.heap.size,1,none⟩ (hH g9 (vs.length+1) cap9) yac) yad;have aR:=StQ.new aO (ft (bo.setCell ⟨w.heap.size,1,none⟩ (hH g9 (vs.length+1) cap9)) (w.heap.size+1+1) (.slice N m1 ae) (hH g9 (vs.length+1) cap9) (.slice ab m3 ak)) xaa;refine yay (v:=eZ N m1 ae (some ⟨g9,0,none⟩) (vs.length+1) cap9 ab m3 ak) (by simp[results,results32,go_sem,s0,ax,aN]) rfl ⟨g9,cap9,rfl,b1,aR⟩
theorem C3(w a1 a2 a3 Y c1 U c2 Z c3 a n)(h:0<=a):
  Calls prog 148 #[eZ a1 Y c1 a2 U c2 a3 Z c3,hI a,hI n] w λe J=>e=.returned (.tuple #[eZ a1 Y c1 a2 U c2 a3 Z c3,hI a])/\Kept 0 0 w J:=by
 go_enter func148,ntmps148;go_wp2_with fail;refine yay (v:=.tuple #[eZ a1 Y c1 a2 U c2 a3 Z c3,hI a]) (by simp[results,results148,go_sem]) rfl ⟨rfl,(ez 0 0 w _).trans (ez 0 0 _ _)⟩
structure SG (w:World)(P:Nat)(b1:Option Addr)(m1 e1:Nat)(b3:Option Addr)(m3 e3:Nat)(vs:List Vl)(base:Nat)(R:Option Nat)(a2:Option Addr)(cap:Nat):Prop where
 lt:P<w.heap.size
 free:∀o,w.frozen? ⟨P,o,none⟩=false
 c0:w.cell? ⟨P,0,none⟩=some (.slice b1 m1 e1)
 c1:w.cell? ⟨P,1,none⟩=some (.slice a2 vs.length cap)
 c2:w.cell? ⟨P,2,none⟩=some (.slice b3 m3 e3)
 own:w.ownsRow base 53 6 (.slice a2 vs.length cap) vs.length (fQ vs)
 row:(Value.slice a2 vs.length cap).ownBlock=R
 ne:R≠some P
 sz:base<=w.heap.size
theorem SG.keep(h:SG w P N m1 ae ab m3 ak vs base aa a2 cap)(k:Kept 0 0 w J):SG J P N m1 ae ab m3 ak vs base aa a2 cap:=
 have e:∀o,J.cell? ⟨P,o,none⟩=w.cell? ⟨P,o,none⟩:=λo=>k.cell (p:=⟨P,o,none⟩) h.lt xaa
 ⟨yaj h.lt k.size,λo=>by rw[k.frozen h.lt xaa];exact h.free o,hU e h.c0,hU e h.c1,hU e h.c2,e8 h.own k,h.row,h.ne,yan h.sz k.size⟩
def fB (w:World)(P:Nat)(x y z:Value):World:=((w.setCell ⟨P,0,none⟩ x).setCell ⟨P,1,none⟩ y).setCell ⟨P,2,none⟩ z
theorem SG.put{w aB af P m1 ae m3 ak base cap aG cap' N ab a2 vs v aa}(h:SG w P N m1 ae ab m3 ak vs base aa a2 cap)(k:Kept 0 0 w aB)
  (own:af.ownsRow base 53 6 (hH aG (vs.length+1) cap') (vs.length+1) (fQ (vs++[v]))) (s:StQ (λ_=>False) aa aB (some aG) af):
  SG (fB af P (.slice N m1 ae) (hH aG (vs.length+1) cap') (.slice ab m3 ak)) P N m1 ae ab m3 ak (vs++[v]) base (some aG) (some ⟨aG,0,none⟩) cap'/\StQ (λi=>i=P) aa w (some aG) (fB af P (.slice N m1 ae) (hH aG (vs.length+1) cap') (.slice ab m3 ak)):=by
 have aF:=h.lt;have cc:=k.size
 have bT:aG≠P:=by
  rcases s.row with e|⟨r,e,ay⟩
  ·exact λc=>h.ne (by rw[<-e,c])
  grind
 have hb:=s.chg.block P xaa (by rintro (c|c);exact c;exact h.ne c);have e:∀o,_:=λo=>(World.cell?_of_block hb).trans (k.cell (p:=⟨P,o,none⟩) h.lt xaa);have x:∀o,_:=λo=>(World.frozen?_of_block hb).trans (k.frozen (p:=⟨P,o,none⟩) h.lt xaa);obtain⟨bh,aU,aY⟩:=fj _ P _ _ _ ((e 0).trans h.c0) ((e 1).trans h.c1) ((e 2).trans h.c2) (.slice N m1 ae) (hH aG (vs.length+1) cap') (.slice ab m3 ak);have K:=ft af P (.slice N m1 ae) (hH aG (vs.length+1) cap') (.slice ab m3 ak);have ah:(vs++[v]).length=vs.length+1:=by simp
 have f:(hH _ (vs.length+1) cap').ownBlock≠some P:=λc=>bT (by simpa[Value.ownBlock] using c);refine⟨⟨?_,λo=>?_,bh,hU ah aU,aY,?_,rfl,λc=>bT (by simpa using c),?_⟩,⟨?_,?_,?_,?_,λi hi hn=>?_⟩,?_⟩
 ·have:=K.size;have:=s.chg.size;unfold fB;omega
 ·unfold fB;simp[x o,h.free o]
 ·rw[ah];exact eJ (eJ (eJ own f) f) f
 ·have:=K.size;have:=s.chg.size;have:=h.sz;unfold fB;omega
 ·exact K.os.trans (s.chg.os.trans k.os)
 ·exact K.tape.trans (s.chg.tape.trans k.tape)
 ·exact K.output.trans (s.chg.output.trans k.output)
 ·have:=K.size;have:=s.chg.size;unfold fB;omega
 ·unfold fB;rw[K.block i (hR s.chg.size) (λc=>hn (.inl xaa)),s.chg.block i xaa (by grind)];exact k.block i hi xaa
 rcases s.row with c|⟨r,c,ay⟩<;>grind
theorem SG.call{w aB P m1 ae m3 ak base cap N ab a2 vs aa}(h:SG w P N m1 ae ab m3 ak vs base aa a2 cap)(k:Kept 0 0 w aB)(v)(hn:vs.length<=1000000):
  Calls prog 32 #[eZ N m1 ae a2 vs.length cap ab m3 ak,v.agg] aB λe af=>∃aG cap',e=.returned (eZ N m1 ae (some ⟨aG,0,none⟩) (vs.length+1) cap' ab m3 ak)/\
   (∃u,af.cell? ⟨P,0,none⟩=some u)/\(∃u,af.cell? ⟨P,1,none⟩=some u)/\(∃u,af.cell? ⟨P,2,none⟩=some u)/\(∀o,af.frozen? ⟨P,o,none⟩=false)/\
   V (SG (fB af P (.slice N m1 ae) (hH aG (vs.length+1) cap') (.slice ab m3 ak)) P N m1 ae ab m3 ak (vs++[v]) base (some aG) (some ⟨aG,0,none⟩) cap'/\StQ (λi=>i=P) aa w (some aG) (fB af P (.slice N m1 ae) (hH aG (vs.length+1) cap') (.slice ab m3 ak))):=by
 have B:=h.keep k;refine(rU _ _ _ _ _ _ _ _ _ _ _ v B.own B.sz hn).mono ?_;rintro e af ⟨aG,cap',rfl,own,s⟩;rw[h.row]at s;have hb:=s.chg.block P B.lt (by rintro (c|c);exact c;exact h.ne c);have e:∀o,_:=λo=>World.cell?_of_block (a:=⟨P,o,none⟩) hb;have x:∀o,_:=λo=>World.frozen?_of_block (a:=⟨P,o,none⟩) hb;exact⟨_,_,rfl,⟨_,(e 0).trans B.c0⟩,⟨_,(e 1).trans B.c1⟩,⟨_,(e 2).trans B.c2⟩,λo=>by rw[x];exact B.free o,h.put k own s⟩
theorem RB.stq{W bb N aA}(t:RB W p bb N aA)(s:StQ (λi=>i=P) aa W R' W')(aK:p≠P)(C:aa≠some p):RB W' p bb N aA:=by
 have hn:¬((λi=>i=P) p\/aa=some p):=by grind
 have e:∀o,_:=λo=>s.chg.cell (p:=⟨p,o,none⟩) t.sz hn;have f:∀o,_:=λo=>s.chg.frozen (p:=⟨p,o,none⟩) t.sz hn;exact⟨yaj t.sz s.chg.size,hU e t.q0,hU e t.q1,hU e t.q2,hU f t.f0,hU f t.f1,hU f t.f2⟩
theorem StQ.keepQ(s:StQ Q aa w R' J)(k:Kept 0 0 J m):StQ Q aa w R' m:=s.new (l:=w.heap.size) (h:=w.heap.size) (k.mono λ_ _ c=>by omega) yad
theorem StQ.drop{z}(s:StQ (λi=>i=P) aa z R' W')(k:Kept 0 0 w z)(hP:w.heap.size<=P):StQ (λ_=>False) aa w R' W':=
 ⟨⟨s.chg.os.trans k.os,s.chg.tape.trans k.tape,s.chg.output.trans k.output,yan k.size s.chg.size,λi hi hn=>by
   rw[s.chg.block i (yaj hi k.size) (by grind)]
   exact k.block i hi xaa⟩,by
   rcases s.row with c|⟨r,c,ay⟩
   ·exact .inl c
   ·exact .inr ⟨r,c,yan k.size ay⟩⟩
theorem StQ.far{I}(s:StQ Q aa w (some aG) W')(aS:I<w.heap.size)(C:aa≠some I):aG≠I:=by
 rcases s.row with c|⟨r,c,ay⟩<;>grind
theorem C4(w N a2 ab m1 ae cap m3 ak base vs a n)(h:w.ownsRow base 53 6 (.slice a2 vs.length cap) vs.length (fQ vs))(hb:base<=w.heap.size)(hn:vs.length<=900000)(G:a<0):
  Calls prog 148 #[eZ N m1 ae a2 vs.length cap ab m3 ak,hI a,hI n] w λe J=>∃aG cap',e=.returned (.tuple #[eZ N m1 ae (some ⟨aG,0,none⟩) (vs.length+1) cap' ab m3 ak,hI (vs.length:Nat)])/\J.ownsRow base 53 6 (hH aG (vs.length+1) cap') (vs.length+1) (fQ (vs++[eL 1 n 0 0 0]))/\StQ (λ_=>False) (Value.slice a2 vs.length cap).ownBlock w (some aG) J:=by
 have an:=ez 0 0 w (eY N m1 ae a2 vs.length cap ab m3 ak);have ao:=ez 0 0 (w.alloc (eY N m1 ae a2 vs.length cap ab m3 ak)) fp;have bq:=(fE w _ _ _).keep ao
 have aT:SG _ _ _ _ _ _ _ _ _ _ _ _ _:=
  ⟨bq.sz,λo=>by simp,bq.q0,bq.q1,bq.q2,e8 h (an.trans ao),rfl,λe=>hR ((eI h e).2),by simp;omega⟩
 have bF:=fY (w.alloc (eY N m1 ae a2 vs.length cap ab m3 ak));rw[show(w.alloc _).heap.size=w.heap.size+1 by simp]at bF;have bD:V _:=bF;have aw:V _:=aT;have HK:V _:=an.trans ao;have HR:V (∀I,w.heap.size<=I->(Value.slice a2 _ _).ownBlock≠some I):=λI aS e=>hR ((eI h e).2)
 have bk:=aT.c0;have a8:=aT.c1;have p2:=aT.c2;have bG:=aT.free;clear h an ao bq aT bF;go_enter func148,ntmps148;go_upto_region 3 with fail;generalize (w.alloc _).alloc _=z at bD aw HK bk a8 p2 bG⊢;go_cut [] (λbo=>∃aG cap',V (SG bo w.heap.size N m1 ae ab m3 ak (vs++[eL 1 n 0 0 0]) base (some aG) (some ⟨aG,0,none⟩) cap'/\StQ (λi=>i=w.heap.size) (Value.slice a2 vs.length cap).ownBlock z (some aG) bo))
 case first=>
  go_region_with (first
   |(go_at_call 32;refine yai (SG.call aw.o ((eF z).trans an) (eL 1 n 0 0 0) xaa) ?_;rintro e af ⟨aG,cap',rfl,⟨a9,bn⟩,⟨am,aC⟩,⟨al,a0⟩,aj,aA⟩)
   |(go_at_call 51;refine yai (oV _ _) ?_;rintro e aB ⟨rfl,an⟩;obtain⟨_,_,s0,ax,aN,_,_,_,_⟩:=SG.keep aw.o ((eF z).trans an)))
  all_goals (go_wp2_with fail;go_meet;exact⟨aG,cap',aA⟩)
 case rest=>
  obtain⟨aG,cap',aA⟩:=hcut;have ah:(vs++[eL 1 n 0 0 0]).length=vs.length+1:=by simp
  obtain⟨aZ,be,bz,bE,bl,C,s,t,v⟩:=aA.o.1;have g:(Value.slice a2 _ _).ownBlock≠some (w.heap.size+1):=λe=>HR.o _ xaa e;have ad:V _:=RB.stq bD.o aA.o.2 xaa g;rw[ah]at bE C;have HO:V _:=C;clear aZ be C s t v bk a8 p2 bG;have aK:V _:=λW=>je W N (some ⟨aG,0,none⟩) ab m1 ae (vs.length+1) cap' m3 ak xaa;rw[show((vs.length+1:Nat):Int)-1=vs.length by omega]at aK;have j:V (∀W,Kept 0 0 _ W->SG W _ _ _ _ _ _ _ _ _ _ _ _/\RB W _ _ _ _):=λW k=>⟨aA.o.1.keep k,RB.keep ad.o k⟩
  have av:V (∀W,Kept 0 0 _ W->(fB W _ (.slice N m1 ae) (hH aG (vs.length+1) cap') (.slice ab m3 ak)).ownsRow _ _ 6 _ _ _/\StQ _ _ w _ (fB W _ (.slice N m1 ae) (hH aG (vs.length+1) cap') (.slice ab m3 ak))):=λW k=>by
   have bT:=aA.o.2.far bD.o.sz g
   have f:(hH _ (vs.length+1) cap').ownBlock≠some _:=λc=>bT (by simpa[Value.ownBlock] using c)
   refine⟨eJ (eJ (eJ (e8 HO.o k) f) f) f,?_⟩
   exact((aA.o.2.drop HK.o yad).keepQ k).new (ft W (w.heap.size+1) _ _ _) xaa
  clear bD aw ad HO HR g;go_upto_region 4 with fail
  go_region_with (first
   |(go_at_call 35;refine yai (aK.o _) ?_;rintro e aX ⟨rfl,aM⟩;obtain⟨⟨_,_,s0,ax,aN,_,_,_,_⟩,⟨_,bj,aQ,a6,bL,bI,bJ⟩⟩:=j.o aX ((eF wc).trans aM);rw[ah]at ax;have cT:V _:=av.o aX ((eF wc).trans aM)))
  all_goals
   go_wp2_with fail
   obtain⟨bh,aU,aY⟩:=fj aX (w.heap.size+1) _ _ _ bj aQ a6 (.slice N m1 ae) (hH aG (vs.length+1) cap') (.slice ab m3 ak)
   refine yay (v:=.tuple #[eZ N m1 ae (some ⟨aG,0,none⟩) (vs.length+1) cap' ab m3 ak,hI (vs.length:Nat)]) (by simp[results,results148,go_sem,bh,aU,aY]) rfl ⟨aG,cap',rfl,cT.o.1,cT.o.2⟩
def MvP (w:World)(b1:Option Addr)(m1 e1:Nat)(b3:Option Addr)(m3 e3:Nat)(vs:List Vl)(base:Nat)(R:Option Nat)(M:List Vl×Int)(e:Ending)(w':World):Prop:=
 ∃a2' cap' R',e=.returned (.tuple #[eZ b1 m1 e1 a2' (vs++M.1).length cap' b3 m3 e3,.int .i64 M.2])/\w'.ownsRow base 53 6 (.slice a2' (vs++M.1).length cap') (vs++M.1).length (fQ (vs++M.1))/\(Value.slice a2' (vs++M.1).length cap').ownBlock=R'/\StQ (λ_=>False) R w R' w'
theorem At.stq{W o v}(t:At W p o v)(ah:p<W.heap.size)(s:StQ (λi=>i=P) aa W R' W')(aK:p≠P)(C:aa≠some p):At W' p o v:=by
 have hn:¬((λi=>i=P) p\/aa=some p):=by grind
 have e:∀o,_:=λo=>s.chg.cell (p:=⟨p,o,none⟩) ah hn;obtain⟨ba,aO,aR,b2,a0,cz⟩:=t;exact⟨by grind,by grind,by grind,by grind,by grind,by grind⟩
theorem StQ.seq{f W g}(a:StQ Q aa w R' W)(b:StQ f R' W g W')(h:∀i,i<w.heap.size->¬f i):StQ Q aa w g W' where
 chg:=⟨b.chg.os.trans a.chg.os,b.chg.tape.trans a.chg.tape,b.chg.output.trans a.chg.output,yan a.chg.size b.chg.size,λk O hn=>by
  rw[b.chg.block k (yaj O a.chg.size) ?_]
  ·exact a.chg.block k O hn
  ·rintro (c|c)
   ·grind
   ·rcases a.row with e|⟨r,e,ay⟩<;>grind⟩
 row:=by
  rcases b.row with e|⟨r,e,ay⟩
  ·rw[e];exact a.row
  exact .inr ⟨r,e,yan a.chg.size ay⟩
structure MS (w W:World)(b1:Option Addr)(m1 e1:Nat)(b3:Option Addr)(m3 e3:Nat)(vs:List Vl)(v:Vl)(base:Nat)(R R':Option Nat)(a2:Option Addr)(cap:Nat):Prop where
 g:SG W w.heap.size b1 m1 e1 b3 m3 e3 vs base R' a2 cap
 b:RB W (w.heap.size+1) (.slice none 0 0) (.slice none 0 0) (.slice none 0 0)
 v:At W (w.heap.size+1+1) 0 v
 lt:w.heap.size+1+1<W.heap.size
 n1:R'≠some (w.heap.size+1)
 n2:R'≠some (w.heap.size+1+1)
 s:StQ (λ_=>False) R w R' W
theorem MS.keep{W v}(h:MS w W N m1 ae ab m3 ak vs v base aa R' a2 cap)(k:Kept 0 0 W W'):MS w W' N m1 ae ab m3 ak vs v base aa R' a2 cap:=
 ⟨h.g.keep k,h.b.keep k,h.v.keep h.lt k yaa,yaj h.lt k.size,h.n1,h.n2,h.s.keepQ k⟩
theorem MS.start(v)(h:w.ownsRow base 53 6 (.slice a2 vs.length cap) vs.length (fQ vs))(hb:base<=w.heap.size):
  MS w (((w.alloc (eY N m1 ae a2 vs.length cap ab m3 ak)).alloc fp).alloc (eK v.op v.len v.a v.b v.c v.k)) N m1 ae ab m3 ak vs v base (Value.slice a2 vs.length cap).ownBlock (Value.slice a2 vs.length cap).ownBlock a2 cap:=by
 have an:=ez 0 0 w (eY N m1 ae a2 vs.length cap ab m3 ak);have ao:=ez 0 0 (w.alloc (eY N m1 ae a2 vs.length cap ab m3 ak)) fp;have aM:=ez 0 0 ((w.alloc (eY N m1 ae a2 vs.length cap ab m3 ak)).alloc fp) (eK v.op v.len v.a v.b v.c v.k);have bq:=((fE w _ _ _).keep ao).keep aM;have C:∀I,w.heap.size<=I->(Value.slice a2 _ _).ownBlock≠some I:=λI aS e=>hR ((eI h e).2)
 have bF:=fY (w.alloc (eY N m1 ae a2 vs.length cap ab m3 ak));rw[show(w.alloc _).heap.size=w.heap.size+1 by simp]at bF;have z:=jF ((w.alloc (eY N m1 ae a2 vs.length cap ab m3 ak)).alloc fp) v;rw[show((w.alloc _).alloc _).heap.size=w.heap.size+1+1 by simp]at z;exact⟨⟨bq.sz,λo=>by rw[(ao.trans aM).frozen xac xaa];simp,bq.q0,bq.q1,bq.q2,e8 h ((an.trans ao).trans aM),rfl,C _ yad,by simp;omega⟩,bF.keep aM,z,by simp,C _ xaa,C _ xaa,(StQ.refl _ _ w).keepQ ((an.trans ao).trans aM)⟩
theorem MS.next{W af v}(h:MS w W N m1 ae ab m3 ak vs v base aa R' a2 cap)(k:Kept 0 0 W aD)
  (own:af.ownsRow base 53 6 (hH aG (vs.length+1) cap') (vs.length+1) (fQ (vs++[u]))) (s:StQ (λ_=>False) R' aD (some aG) af):
  (∃u,af.cell? ⟨w.heap.size,0,none⟩=some u)/\(∃u,af.cell? ⟨w.heap.size,1,none⟩=some u)/\(∃u,af.cell? ⟨w.heap.size,2,none⟩=some u)/\(∀o,af.frozen? ⟨w.heap.size,o,none⟩=false)/\At af (w.heap.size+1+1) 0 v/\
   V (MS w (fB af w.heap.size (.slice N m1 ae) (hH aG (vs.length+1) cap') (.slice ab m3 ak)) N m1 ae ab m3 ak (vs++[u]) v base aa (some aG) (some ⟨aG,0,none⟩) cap'):=by
 have B:=h.g.keep k;obtain⟨aO,aR⟩:=h.g.put k own s;have hb:=s.chg.block _ B.lt (by rintro (c|c);exact c;exact h.g.ne c);have e:∀o,_:=λo=>World.cell?_of_block (a:=⟨w.heap.size,o,none⟩) hb;have x:∀o,_:=λo=>World.frozen?_of_block (a:=⟨w.heap.size,o,none⟩) hb
 have aL:At af (w.heap.size+1+1) 0 v:=by
  have ah:=yaj h.lt k.size;have aQ:∀o,_:=λo=>s.chg.cell (p:=⟨_,o,none⟩) ah (by rintro (c|c);exact c;exact h.n2 c);obtain⟨ba,aO,aR,b2,a0,cz⟩:=h.v.keep h.lt k yaa;exact⟨by grind,by grind,by grind,by grind,by grind,by grind⟩
 exact⟨⟨_,(e 0).trans B.c0⟩,⟨_,(e 1).trans B.c1⟩,⟨_,(e 2).trans B.c2⟩,λo=>by rw[x];exact B.free o,aL,aO,h.b.stq aR xaa h.n1,h.v.stq h.lt aR xaa h.n2,yaj h.lt aR.chg.size,
  λc=>aR.far (Nat.lt_trans yae h.lt) h.n1 (by simpa using c),λc=>aR.far h.lt h.n2 (by simpa using c),h.s.seq aR (λi hi c=>by omega)⟩
theorem MS.call{w W aD m1 ae m3 ak base cap N ab a2 vs v aa R'}(h:MS w W N m1 ae ab m3 ak vs v base aa R' a2 cap)(k:Kept 0 0 W aD)(u)(hn:vs.length<=1000000):
  Calls prog 32 #[eZ N m1 ae a2 vs.length cap ab m3 ak,u.agg] aD λe af=>∃aG cap',e=.returned (eZ N m1 ae (some ⟨aG,0,none⟩) (vs.length+1) cap' ab m3 ak)/\
   (∃u,af.cell? ⟨w.heap.size,0,none⟩=some u)/\(∃u,af.cell? ⟨w.heap.size,1,none⟩=some u)/\(∃u,af.cell? ⟨w.heap.size,2,none⟩=some u)/\(∀o,af.frozen? ⟨w.heap.size,o,none⟩=false)/\At af (w.heap.size+1+1) 0 v/\
   V (MS w (fB af w.heap.size (.slice N m1 ae) (hH aG (vs.length+1) cap') (.slice ab m3 ak)) N m1 ae ab m3 ak (vs++[u]) v base aa (some aG) (some ⟨aG,0,none⟩) cap'):=by
 have B:=h.g.keep k;refine(rU _ _ _ _ _ _ _ _ _ _ _ u B.own B.sz hn).mono ?_;exact xjm
theorem MS.orNone{W v}(h:MS w W N m1 ae ab m3 ak vs v base aa R' a2 cap)(k:Kept 0 0 W aD)(a n)(G:a<0)(hn:vs.length<=900000):
  Calls prog 148 #[eZ N m1 ae a2 vs.length cap ab m3 ak,hI a,hI n] aD λe af=>∃aG cap',e=.returned (.tuple #[eZ N m1 ae (some ⟨aG,0,none⟩) (vs.length+1) cap' ab m3 ak,hI (vs.length:Nat)])/\
   (∃u,af.cell? ⟨w.heap.size,0,none⟩=some u)/\(∃u,af.cell? ⟨w.heap.size,1,none⟩=some u)/\(∃u,af.cell? ⟨w.heap.size,2,none⟩=some u)/\(∀o,af.frozen? ⟨w.heap.size,o,none⟩=false)/\At af (w.heap.size+1+1) 0 v/\
   V (MS w (fB af w.heap.size (.slice N m1 ae) (hH aG (vs.length+1) cap') (.slice ab m3 ak)) N m1 ae ab m3 ak (vs++[eL 1 n 0 0 0]) v base aa (some aG) (some ⟨aG,0,none⟩) cap'):=by
 have B:=h.g.keep k;refine(C4 _ _ _ _ _ _ _ _ _ _ _ a n B.own B.sz hn G).mono ?_;exact xjm
theorem MS.orSome{W v}(h:MS w W N m1 ae ab m3 ak vs v base aa R' a2 cap)(k:Kept 0 0 W aD)(a n)(G:0<=a):
  Calls prog 148 #[eZ N m1 ae a2 vs.length cap ab m3 ak,hI a,hI n] aD λe af=>e=.returned (.tuple #[eZ N m1 ae a2 vs.length cap ab m3 ak,hI a])/\
   (∃u,af.cell? ⟨w.heap.size,0,none⟩=some u)/\(∃u,af.cell? ⟨w.heap.size,1,none⟩=some u)/\(∃u,af.cell? ⟨w.heap.size,2,none⟩=some u)/\(∀o,af.frozen? ⟨w.heap.size,o,none⟩=false)/\At af (w.heap.size+1+1) 0 v/\
   V (MS w (fB af w.heap.size (.slice N m1 ae) (.slice a2 vs.length cap) (.slice ab m3 ak)) N m1 ae ab m3 ak vs v base aa R' a2 cap):=by
 refine(C3 _ _ _ _ _ _ _ _ _ _ a n G).mono ?_;rintro e af ⟨rfl,ao⟩;have R:=h.keep (k.trans ao);have K:=ft af w.heap.size (.slice N m1 ae) (.slice a2 vs.length cap) (.slice ab m3 ak);obtain⟨bh,aU,aY⟩:=fj _ _ _ _ _ R.g.c0 R.g.c1 R.g.c2 (.slice N m1 ae) (.slice a2 vs.length cap) (.slice ab m3 ak);have f:(Value.slice a2 vs.length cap).ownBlock≠some w.heap.size:=hU R.g.row R.g.ne
 have cf:∀I o,I≠w.heap.size->I<af.heap.size->(fB af _ _ _ _).cell? _=af.cell? ⟨I,o,none⟩:=λI o aS ah=>K.cell ah (by grind);have x:∀I o,I≠w.heap.size->I<af.heap.size->(fB af _ _ _ _).frozen? _=af.frozen? ⟨I,o,none⟩:=λI o aS ah=>K.frozen ah (by grind);obtain⟨bz,bj,aQ,a6,bL,bI,bJ⟩:=R.b;obtain⟨ay,bc,bd,bg,Z,s⟩:=R.v
 refine⟨rfl,⟨_,R.g.c0⟩,⟨_,R.g.c1⟩,⟨_,R.g.c2⟩,R.g.free,R.v,⟨yaj R.g.lt K.size,λo=>?_,bh,aU,aY,eJ (eJ (eJ R.g.own f) f) f,R.g.row,R.g.ne,yan R.g.sz K.size⟩,
  ⟨yaj bz K.size,by grind,by grind,by grind,by grind,by grind,by grind⟩,
  ⟨by rw[cf _ _ xaa R.lt];exact ay,by rw[cf _ _ xaa R.lt];exact bc,by rw[cf _ _ xaa R.lt];exact bd,by rw[cf _ _ xaa R.lt];exact bg,by rw[cf _ _ xaa R.lt];exact Z,by rw[cf _ _ xaa R.lt];exact s⟩,yaj R.lt K.size,R.n1,R.n2,R.s.new K yad⟩
 unfold fB;simp[R.g.free o]
theorem MS.fin{W vs0 v M}(h:MS w W N m1 ae ab m3 ak vs v base aa R' a2 cap)(k:Kept 0 0 W W')(aL:vs=vs0++M.1):
  MvP w N m1 ae ab m3 ak vs0 base aa M (.returned (.tuple #[eZ N m1 ae a2 vs.length cap ab m3 ak,hI M.2])) (fB W' (w.heap.size+1) (.slice N m1 ae) (.slice a2 vs.length cap) (.slice ab m3 ak)):=by
 exact xfq
theorem mb(w:World)(P I o x y z)(h:I≠P):(((w.setCell ⟨P,0,none⟩ x).setCell ⟨P,1,none⟩ y).setCell ⟨P,2,none⟩ z).cell? ⟨I,o,none⟩=w.cell? ⟨I,o,none⟩:=by
 exact xiq
end
section
def pA (n:Nat):Code->Option Code
 |.region i ops d=>if i=n then some (.region i ops d)else none
 |.seq a b=>match pA n a with
  |some c=>some c
  |none=>pA n b
 |.cond _ a b=>match pA n a with
  |some c=>some c
  |none=>pA n b
 |.block _ c=>pA n c
 |.scope c=>pA n c
 |.loop c=>pA n c
 |_=>none
noncomputable def PX (n:Nat):Code:=(Tryz.f146.body.bind (pA n)).getD .skip
theorem fC{P}{c:Code}{K Q a w}(h:c.wp P (Exit.then K λ_ _ _=>False) a w):c.wp P (Exit.then K Q) a w:=by
 exact xkh
variable {w W:World}{N ab a2:Option Addr}{m1 ae cap m3 ak base ag i:Nat}{vs:List Vl}{v:Vl}{bQ:Int}{aa R':Option Nat}
structure MvH (w:World)(cap base g2 i:Nat)(vs:List Vl)(v:Vl):Prop where
 h:w.ownsRow base 53 6 (.slice (some ⟨g2,0,none⟩) vs.length cap) vs.length (fQ vs)
 hb:base<=w.heap.size
 hn:vs.length<=800000
 hi:i<vs.length
 hv:At w g2 (i*6) v
theorem MvH.op(H:MvH w cap base ag i vs v)(N ab m1 ae m3 ak):At w ag (i*6) v/\0<=(i:Int)/\(i:Int)<vs.length/\ag<w.heap.size/\∃z,
  V (((w.alloc (eY N m1 ae (some ⟨ag,0,none⟩) vs.length cap ab m3 ak)).alloc fp).alloc (eK v.op v.len v.a v.b v.c v.k)=z)/\vs.length<=800000/\V (MS w z N m1 ae ab m3 ak vs v base (some ag) (some ag) (some ⟨ag,0,none⟩) cap)/\V (w.ownsRow base 53 6 (hH ag vs.length cap) vs.length (fQ vs)):=
 ⟨H.hv,by omega,hR H.hi,(eI H.h (k:=ag) rfl).2,_,rfl,H.hn,MS.start v H.h H.hb,H.h⟩
theorem MS.lst(h:MS w W N m1 ae ab m3 ak vs v base aa R' a2 cap)(hn:vs.length<=1000000)(bF:(vs.length:Int)-1=bQ):Calls prog 35 #[eZ N m1 ae a2 vs.length cap ab m3 ak] W λe J=>e=.returned (hI bQ)/\V (MS w J N m1 ae ab m3 ak vs v base aa R' a2 cap):=
 (je W N a2 ab m1 ae vs.length cap m3 ak hn).mono λ_ _ q=>⟨bF ▸ q.1,h.keep q.2⟩
def MpR (w:World)(b1:Option Addr)(m1 e1:Nat)(b3:Option Addr)(m3 e3:Nat)(vs:List Vl)(v:Vl)(base:Nat)(R:Option Nat)(x:Vl)(W':World):Prop:=
 ∃us g' cap',V (us=vs++[x]/\us.length=vs.length+1)/\us.length<=vs.length+1/\V (MS w W' b1 m1 e1 b3 m3 e3 us v base R (some g') (some ⟨g',0,none⟩) cap')
def MfK (R:World->Prop)(p0 p1 p2 p3 p4 p5 p6 p7 p8 p9 p10 p12 p13 p14 p15 p16 p17 p18 p19 q11:Value)(K:Act->World->Prop):Prop:=∀{a b c d e f g h i j k l m n o p q r s t u v w x y z A B C D E F G H I J L M N O P Q S T U Vaa W X Y Z aa ab ad ae af ag ah ai aj ak al am an ao ap aq ar au av aw ax ay az aA aB aC aD aE aF aG aH aI aJ aK aL aM aN aO aP aQ aR aS aT aU aV aW aX aY aZ a0 a1 a2 a3 a4 a5 a6 a7 a8 a9 ba bb bc bd be bf bg bh bi bj bk bl bm bn bo bp bq br bs bt bu bv bw bx bz bA bB bC bD bE bF bG bH bI bJ bK bL bM bN bO bP bQ bR bS bT bU bV bW bX bY bZ b0 b1 b2 b3 b4 b5 b6 b7 b8 b9 ca cb cc cd ce cf cg ch ci cj ck cl cm cn co cp cq cr cs ct cu cv cw cx cy cz cA cB cC cD cE cF cG cH cI cJ cK cL cM cN cO cP cQ cR cS cT cU cV cW cX cY cZ c0 c1 c2 c3 c4 c5 c6 c7 c8 c9 da db dc dd de df:Value} (W':World),R W'->K ⟨#[p0,p1,p2,p3,p4,p5,p6,p7,p8,p9,p10,q11,p12,p13,p14,p15,p16,p17,p18,p19,a,b,c,d,e,f,g,h,i,j,k,l,m,n,o,p,q,r,s,t,u,v,w,x,y,z,A,B,C,D,E,F,G,H,I,J,L,M,N,O,P,Q,S,T,U,Vaa,W,X,Y,Z,aa,ab,ad,ae,af,ag,ah,ai,aj,ak,al,am,an,ao,ap,aq,ar,au,av,aw,ax,ay,az,aA,aB,aC,aD,aE,aF,aG,aH,aI,aJ,aK,aL,aM,aN,aO,aP,aQ,aR,aS,aT,aU,aV,aW,aX,aY,aZ,a0,a1,a2,a3,a4,a5,a6,a7,a8,a9,ba,bb,bc,bd,be,bf,bg,bh,bi,bj,bk,bl,bm,bn,bo,bp,bq,br,bs,bt,bu,bv,bw,bx,bz,bA,bB,bC,bD,bE,bF,bG,bH,bI,bJ,bK,bL,bM,bN,bO,bP,bQ,bR,bS,bT,bU,bV,bW,bX,bY,bZ,b0,b1,b2,b3,b4,b5,b6,b7,b8,b9,ca,cb,cc,cd,ce,cf,cg,ch,ci,cj,ck,cl,cm,cn,co,cp,cq,cr,cs,ct,cu,cv,cw,cx,cy,cz,cA,cB,cC,cD,cE,cF,cG,cH,cI,cJ,cK,cL,cM,cN,cO,cP,cQ,cR,cS,cT,cU,cV,cW,cX,cY,cZ,c0,c1,c2,c3,c4,c5,c6,c7,c8,c9,da,db,dc,dd,de,df],[]⟩ W'
def MfC (n:Nat)(W:World)(R:World->Prop)(a b c d e f g h i j k u l m o p q r s t v:Value):Prop:=
 ∀{K:Act->World->Prop}{w x y z A B C D E F G H I J L M N O P Q S T U Vaa X Y Z aa ab ad ae af ag ah ai aj ak al am an ao ap aq ar au av aw ax ay az aA aB aC aD aE aF aG aH aI aJ aK aL aM aN aO aP aQ aR aS aT aU aV aW aX aY aZ a0 a1 a2 a3 a4 a5 a6 a7 a8 a9 ba bb bc bd be bf bg bh bi bj bk bl bm bn bo bp bq br bs bt bu bv bw bx bz bA bB bC bD bE bF bG bH bI bJ bK bL bM bN bO bP bQ bR bS bT bU bV bW bX bY bZ b0 b1 b2 b3 b4 b5 b6 b7 b8 b9 ca cb cc cd ce cf cg ch ci cj ck cl cm cn co cp cq cr cs ct cu cv cw cx cy cz cA cB cC cD cE cF cG cH cI cJ cK cL cM cN cO cP cQ cR cS cT cU cV cW cX cY cZ c0 c1 c2 c3 c4 c5 c6 c7 c8 c9 da db dc dd de df dg dh di dj dk dl dm dn dp dq dr ds dt du dv dw dx dy dz dA dB dC dD:Value},MfK R a b c d e f g h i j k l m o p q r s t v K->Code.wp prog (PX n) (Exit.then K λ_ _ _=>False) ⟨#[a,b,c,d,e,f,g,h,i,j,k,u,l,m,o,p,q,r,s,t,w,x,y,z,A,B,C,D,E,F,G,H,I,J,L,M,N,O,P,Q,S,T,U,Vaa,X,Y,Z,aa,ab,ad,ae,af,ag,ah,ai,aj,ak,al,am,an,ao,ap,aq,ar,au,av,aw,ax,ay,az,aA,aB,aC,aD,aE,aF,aG,aH,aI,aJ,aK,aL,aM,aN,aO,aP,aQ,aR,aS,aT,aU,aV,aW,aX,aY,aZ,a0,a1,a2,a3,a4,a5,a6,a7,a8,a9,ba,bb,bc,bd,be,bf,bg,bh,bi,bj,bk,bl,bm,bn,bo,bp,bq,br,bs,bt,bu,bv,bw,bx,bz,bA,bB,bC,bD,bE,bF,bG,bH,bI,bJ,bK,bL,bM,bN,bO,bP,bQ,bR,bS,bT,bU,bV,bW,bX,bY,bZ,b0,b1,b2,b3,b4,b5,b6,b7,b8,b9,ca,cb,cc,cd,ce,cf,cg,ch,ci,cj,ck,cl,cm,cn,co,cp,cq,cr,cs,ct,cu,cv,cw,cx,cy,cz,cA,cB,cC,cD,cE,cF,cG,cH,cI,cJ,cK,cL,cM,cN,cO,cP,cQ,cR,cS,cT,cU,cV,cW,cX,cY,cZ,c0,c1,c2,c3,c4,c5,c6,c7,c8,c9,da,db,dc,dd,de,df,dg,dh,di,dj,dk,dl,dm,dn,dp,dq,dr,ds,dt,du,dv,dw,dx,dy,dz,dA,dB,dC,dD],[]⟩ W
