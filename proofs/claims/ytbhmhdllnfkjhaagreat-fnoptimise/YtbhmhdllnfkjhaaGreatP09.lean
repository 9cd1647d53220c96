import Derived.Test.YtbhmhdllnfkjhaaGreatP07
import Derived.Test.YtbhmhdllnfkjhaaGreatP08
namespace Go.Proofs.Z
open Tryz Go.RowKit Flt
set_option maxRecDepth 1000000
set_option maxHeartbeats 0
section
attribute[local go_sem] eG eE eD
variable{q k p P m1 l m3 af base aB cap cap':Nat}{Q:Nat->Prop}{w W' az I m:World}{r:Int}{y u:Vl}{U R':Option Nat}{O Z Y:Option Addr}{vs:List Vl}
def mvM(i:Int)(v:Vl)(ta tb tc:Int)(N:Nat):List Vl×Int:=
 if ta=-1/\tb=-1/\tc=-1 then ([],-1)
 else if v.op=2 then yD v.len ta tb N
 else if v.op=3 then yE v.len ta tb N
 else if v.op=4 then yG v ta tb N
 else if v.op=5 then yH i v ta tb N
 else if v.op=7 then ([eL 3 v.len v.a v.b 0]++(chM v.len N ta tb (N+1)).1,(chM v.len N ta tb (N+1)).2)
 else if v.op=8 then (if tb=-1/\tc=-1 then ([],-1)else chM v.len v.a tb tc N)
 else if v.op=13 then ([eL 4 v.len ta i 0],(N:Int))
 else ([eL v.op v.len ta 0 v.c],(N:Int))
def ovs(v:Vl)(mv:List Int)(q j:Nat):Int:=if j<q then mv.getD (fld v j).toNat 0 else -1
theorem Dh(v)(am:q<cnt v.op):(eQ v).getD q 0=[v.a,v.b,v.c].getD q 0:=by
 simp_all[eQ]
theorem Jo(v)(am:q<3):fld v q=[v.a,v.b,v.c].getD q 0:=by
 rcases (by omega:q=0\/q=1\/q=2) with rfl|rfl|rfl<;>rfl
theorem two{b c}(h:¬(b=-1/\c=-1)):((b==-1)=false)\/((b==-1)=true/\(c==-1)=false):=by
 grind
def lK(k n:Nat):List Int:=List.replicate k (-1)++List.replicate (n-k) 0
theorem vn(k n)(h:k<=n):(lK k n).length=n:=by simp[lK];omega
theorem vp(n):lK n n=List.replicate n (-1):=by simp[lK]
theorem vq{n}(h:k<n):(lK k n).set k (-1)=lK (k+1) n:=by
 apply List.ext_getElem?;intro j;unfold lK;grind
def jmv(vs0:List Vl)(i:Nat)(st:List Vl×List Int):List Vl×Int:=
 mvM (i:Int) (vs0.getD i hI) (ovs (vs0.getD i hI) st.2 (cnt (vs0.getD i hI).op) 0) (ovs (vs0.getD i hI) st.2 (cnt (vs0.getD i hI).op) 1) (ovs (vs0.getD i hI) st.2 (cnt (vs0.getD i hI).op) 2) st.1.length
def jst(vs0:List Vl)(x t:Nat):Nat->List Vl×List Int
 |0=>(vs0,(List.replicate vs0.length (-1)).set x (t:Int))
 |k+1=>((jst vs0 x t k).1++(jmv vs0 (x+1+k) (jst vs0 x t k)).1,(jst vs0 x t k).2.set (x+1+k) (jmv vs0 (x+1+k) (jst vs0 x t k)).2)
theorem wY(vs0 x t):∀k,(jst vs0 x t k).2.length=vs0.length
 |0=>by simp[jst]
 |k+1=>by simp[jst,wY vs0 x t k]
theorem wZ(vs0 x t):∀k,∃r,(jst vs0 x t k).1=vs0++r
 |0=>⟨[],by simp[jst]⟩
 |k+1=>by
  obtain⟨r,h⟩:=wZ vs0 x t k
  grind[jst]
theorem BX(vs0 x t k){i}(hi:i<vs0.length):(jst vs0 x t k).1.getD i hI=vs0.getD i hI:=by
 obtain⟨r,h⟩:=wZ vs0 x t k;grind
def Sz(k:Nat)(M:List Vl×Int):Prop:=M.1.length<=k/\0<=fd M.1/\fd M.1<=1000*(k:Int)
theorem iV{p}[Decidable p]{a b}(F:Sz k a)(hb:Sz k b):Sz k (if p then a else b):=by
 grind
theorem AM:Sz k ([],r):=by grind[Sz,fd]
theorem xd{v}(N:1<=k)(ae:0<=v.len)(B:v.len<=1000):Sz k ([v],r):=by grind[Sz,fd]
theorem O5{v}(N:2<=k)(ae:0<=v.len)(B:v.len<=1000)(J:0<=u.len)(h3:u.len<=1000):Sz k ([v,u],r):=by grind[Sz,fd]
theorem MN{v}(N:3<=k)(ae:0<=v.len)(B:v.len<=1000)(J:0<=u.len)(h3:u.len<=1000)(a0:0<=y.len)(bz:y.len<=1000):Sz k ([v,u,y],r):=by grind[Sz,fd]
theorem P0{v z}(N:4<=k)(ae:0<=v.len)(B:v.len<=1000)(J:0<=u.len)(h3:u.len<=1000)(a0:0<=y.len)(bz:y.len<=1000)(bP:0<=z.len)(aS:z.len<=1000):Sz k ([v,u,y,z],r):=by grind[Sz,fd]
theorem Jp{v M}(h:Sz k M)(ae:0<=v.len)(B:v.len<=1000):Sz (k+1) ([v]++M.1,r):=by
 unfold Sz at*;grind[fd]
theorem LZ{n d p q aH}(ae:0<=n)(B:n<=1000):Sz 3 (chM n d p q aH):=by
 unfold chM;exact iV (iV (MN xaa ae B ae B ae B) (O5 xaa ae B ae B)) (iV (O5 xaa ae B ae B) (xd xaa ae B))
theorem Jq{M}(h:Sz k M)(N:k<=l):Sz l M:=by
 unfold Sz at*;omega
theorem FD(i v ah S an aH)(ae:0<=v.len)(B:v.len<=1000):Sz 4 (mvM i v ah S an aH):=by
 unfold mvM yD yE yG yH
 exact iV AM (iV (iV AM (iV AM (xd xaa ae B))) (iV (iV AM (iV (xd xaa ae B) (xd xaa ae B)))
  (iV (iV (iV AM (xd xaa ae B)) (iV (xd xaa ae B) (MN xaa ae B ae B ae B)))
  (iV (iV (iV AM (MN xaa ae B ae B ae B)) (iV (xd xaa ae B) (P0 xaa ae B ae B ae B ae B)))
  (iV (Jp (LZ ae B) ae B) (iV (iV AM (Jq (LZ ae B) xaa)) (iV (xd xaa ae B) (xd xaa ae B))))))))
theorem tO(vs0 x t)(ab:∀k,k<vs0.length->1<=(vs0.getD k hI).len/\(vs0.getD k hI).len<=1000)(cb:0<=fd vs0)(aA:fd vs0<=50000):∀k,x+k<vs0.length->(jst vs0 x t k).1.length<=vs0.length+4*k/\0<=fd (jst vs0 x t k).1/\fd (jst vs0 x t k).1<=50000+4000*k
 |0,_=>by simp[jst];omega
 |k+1,N=>by
  have aa:=tO _ x t ab cb aA k xaa
  have aD:=ab (x+1+k) xaa
  have aq:=FD (x+1+k:Nat) (vs0.getD (x+1+k) hI) (ovs (vs0.getD (x+1+k) hI) (jst vs0 x t k).2 (cnt (vs0.getD (x+1+k) hI).op) 0) (ovs (vs0.getD (x+1+k) hI) (jst vs0 x t k).2 (cnt (vs0.getD (x+1+k) hI).op) 1) (ovs (vs0.getD (x+1+k) hI) (jst vs0 x t k).2 (cnt (vs0.getD (x+1+k) hI).op) 2) (jst vs0 x t k).1.length xaa xaa
  rw[jst]
  simp only[yal,tK]
  unfold jmv
  unfold Sz at aq
  omega
def jW(vs0:List Vl)(s x t:Nat):List Vl×Int:=
 if (jst vs0 x t (s-x)).2.getD s 0=-1 then ((jst vs0 x t (s-x)).1++[eL 1 (vs0.getD s hI).len 0 0 0],((jst vs0 x t (s-x)).1.length:Nat))else ((jst vs0 x t (s-x)).1,(jst vs0 x t (s-x)).2.getD s 0)
theorem mX:∀(vs:List Vl),(∀j,j<vs.length->0<=(vs.getD j hI).len)->0<=fd vs
 |[],_=>by simp[fd]
 |v::r,h=>by
  have ae:=h 0 xac
  have B:=mX r (λj hj=>h (j+1) yag)
  have e:(v::r).getD 0 hI=v:=rfl
  rw[e]at ae
  simp only[fd]
  omega
theorem mI{ins}(ok:okV ins vs k=true):∀q,q<cnt (vs.getD k hI).op->0<=fld (vs.getD k hI) q/\fld (vs.getD k hI) q<k:=λq am=>by
 by_cases ae:(vs.getD k hI).op=0
 ·grind[cnt]
 ·unfold okV at ok
  rw[hF ae]at ok
  simp only[Bool.and_eq_true]at ok
  have h:=List.all_eq_true.1 ok.2.1 _ (gY (by rw[iz];exact am))
  have J:=of_decide_eq_true h
  grind[Dh,Jo,f9]
def kM(vs:List Vl):Bool:=decide (2000<vs.length\/50000<fd vs)
theorem gO(w op n a b c):Calls prog 40 #[hD op,hD n,hD a,hD b,hD c] w λe I=>e=.returned (eL op n a b c).agg/\Kept 0 0 w I:=by
 go_enter func40,ntmps40;go_wp2_with fail;refine yaz (v:=(eL op n a b c).agg) (by simp[results,results40,go_sem]) rfl ⟨rfl,ez 0 0 w _⟩
theorem pw(w n):Calls prog 65 #[hD n] w λe I=>e=.returned (eL 1 n 0 0 0).agg/\Kept 0 0 w I:=by
 go_enter func65,ntmps65;go_wp2_with fail;refine yaz (v:=(eL 1 n 0 0 0).agg) (by simp[results,results65,go_sem]) rfl ⟨rfl,ez 0 0 w _⟩
theorem jf(w a1 Y a3 n1 c1 T c2 n3 c3)(hn:T<=1000000):Calls prog 41 #[eV a1 n1 c1 Y T c2 a3 n3 c3] w λe I=>e=.returned (hD ((T:Int)-1))/\Kept 0 0 w I:=by
 go_enter func41,ntmps41;go_wp2;go_ret;exact⟨rfl,ez 0 0 w _⟩
theorem Jr{aO bg cw v o}(_h:w.ownsRow base 60 6 cw vs.length (fK vs))(k:Kept 0 0 w aO)
  (bQ:bg.ownsRow base 60 6 (hC aB (vs.length+1) cap') (vs.length+1) (fK vs++v.cells)) (a0:(aO.alloc o).grownBy bg cw.ownBlock) (be:cw.ownBlock=some aB\/aB=(aO.alloc o).heap.size):
  bg.ownsRow base 60 6 (hC aB (vs.length+1) cap') (vs.length+1) (fK (vs++[v]))/\StQ (λ_=>False) cw.ownBlock w (some aB) bg:=by
 refine⟨by rw[kC,mV];exact bQ,⟨a0.os.trans k.os,a0.tape.trans k.tape,a0.output.trans k.output,?_,λi hi hn=>?_⟩,?_⟩
 ·have B:=a0.size;have J:=k.size;simp at B;omega
 ·have J:=k.size;rw[a0.block i yag (λc=>hn (.inr c.symm)),Below.heap_alloc _ o i xaa];exact k.block i hi xaa
 rcases be with e|e
 ·grind
 have J:=k.size;exact .inr ⟨_,rfl,by rw[e];simp;omega⟩
theorem StQ.new{h}(s:StQ Q U w R' I)(k:Kept l h I m)(ab:w.heap.size<=l):StQ Q U w R' m:=
 ⟨⟨k.os.trans s.chg.os,k.tape.trans s.chg.tape,k.output.trans s.chg.output,yao s.chg.size k.size,λi hi hn=>by
   rw[k.block i (yak hi s.chg.size) xaa]
   exact s.chg.block i hi hn⟩,s.row⟩
theorem se(w O Y Z m1 e1 cap m3 af base vs v)(h:w.ownsRow base 60 6 (.slice Y vs.length cap) vs.length (fK vs))(hb:base<=w.heap.size)(hn:vs.length<=1000000):
  Calls prog 38 #[eV O m1 e1 Y vs.length cap Z m3 af,v.agg] w λe I=>∃aB cap',e=.returned (eV O m1 e1 (some ⟨aB,0,none⟩) (vs.length+1) cap' Z m3 af)/\I.ownsRow base 60 6 (hC aB (vs.length+1) cap') (vs.length+1) (fK (vs++[v]))/\StQ (λ_=>False) (Value.slice Y vs.length cap).ownBlock w (some aB) I:=by
 obtain⟨b3,hi,a6,b8,b5⟩:=info_parts sc;have aj:=ez 0 0 w (eW O m1 e1 Y vs.length cap Z m3 af);have ah:=ez 0 0 (w.alloc (eW O m1 e1 Y vs.length cap Z m3 af)) (fB v.op v.len v.a v.b v.c v.k);have aF:=ez 0 0 ((w.alloc (eW O m1 e1 Y vs.length cap Z m3 af)).alloc (fB v.op v.len v.a v.b v.c v.k)) fj;have bv:=((ft w (.slice O m1 e1) (.slice Y vs.length cap) (.slice Z m3 af)).keep ah).keep aF
 have c:∀o,(((w.alloc (eW O m1 e1 Y vs.length cap Z m3 af)).alloc (fB v.op v.len v.a v.b v.c v.k)).alloc fj).frozen? ⟨w.heap.size,o,none⟩=false:=λo=>by
  rw[(ah.trans aF).frozen (p:=⟨w.heap.size,o,none⟩) xac xaa]
  simp
 have av:=(i5 (w.alloc (eW O m1 e1 Y vs.length cap Z m3 af)) v).keep xac aF yaa;have bw:=fF ((w.alloc (eW O m1 e1 Y vs.length cap Z m3 af)).alloc (fB v.op v.len v.a v.b v.c v.k));rw[show((w.alloc (eW O m1 e1 Y vs.length cap Z m3 af)).alloc (fB v.op v.len v.a v.b v.c v.k)).heap.size=w.heap.size+1+1 by simp]at bw;rw[show(w.alloc (eW O m1 e1 Y vs.length cap Z m3 af)).heap.size=w.heap.size+1 by simp]at av;have N:=(aj.trans ah).trans aF;have aZ:=eR h N;have bo:V _:=h;have HK:V _:=N;have bu:V _:=bw;have aX:V _:=bv;have an:V _:=c;obtain⟨_,a8,aV,p2⟩:=bv;obtain⟨bF,a9,ba,be,bi,s⟩:=av;have ee:=yao hb N.size;clear aj ah aF c bw N h;go_enter func38,ntmps38;go_wp2_with (first|(at_builtin;refine wpList_append_lies _ rfl _ _ 24 rfl base 60 b3 (kT 0 0 0 0 0 0) 6 48 underlying24 hi a6 b8 b5 rfl xab _ _ (fK vs) rfl (aZ.alloc _) ⟨w.heap.size+1+1+1,0,none⟩ 1 1 v.cells rfl rfl ?c1 ?c2 xab ?c3 ?c4 ?c5 _ rfl ?_))
 case c1=>
  have bP:=vg (((w.alloc (eW O m1 e1 Y vs.length cap Z m3 af)).alloc (fB v.op v.len v.a v.b v.c v.k)).alloc fj) v 0;rw[show(((w.alloc (eW O m1 e1 Y vs.length cap Z m3 af)).alloc (fB v.op v.len v.a v.b v.c v.k)).alloc fj).heap.size=w.heap.size+1+1+1 by simp]at bP;exact bP
 case c2=>exact AD v
 case c3=>unfold maxLen;omega
 case c4=>omega
 case c5=>simp;omega
 intro g9 cap9 bg bQ a0 cd bO;have g:(((w.alloc (eW O m1 e1 Y vs.length cap Z m3 af)).alloc (fB v.op v.len v.a v.b v.c v.k)).alloc fj).heap.size=w.heap.size+1+1+1:=by simp
 have al:(Value.slice Y vs.length cap).ownBlock=some g9\/g9=((((w.alloc (eW O m1 e1 Y vs.length cap Z m3 af)).alloc (fB v.op v.len v.a v.b v.c v.k)).alloc fj).alloc (.cells #[hD v.op,hD v.len,hD v.a,hD v.b,hD v.c,.float .f64 v.k] 60)).heap.size:=cd.imp id (λe=>by rw[e];simp);obtain⟨ay,aW⟩:=Jr (v:=v) bo.o HK.o bQ a0 al;have ar:∀R,w.heap.size<=R->(Value.slice Y vs.length cap).ownBlock≠some R:=λR aS e=>hM ((eH bo.o e).2)
 have t:g9<w.heap.size\/w.heap.size+1+1+1<g9:=by
  rcases al with e|e
  ·exact .inl (eH bo.o e).2
  right;rw[e];simp
 have bI:=lJ (m:=0) a0 (hR g) (ar w.heap.size yad) a8;have bB:=lJ (m:=0) a0 (hR g) (ar w.heap.size yad) aV;have bE:=lJ (m:=0) a0 (hR g) (ar w.heap.size yad) p2;have B:=far2 (m:=0) a0 (hR g) (ar w.heap.size yad) (an.o 1);obtain⟨_,bT,n1,T,H,i,b2⟩:=bu.o;have bb:=lJ (m:=0) a0 (hR g) (ar (w.heap.size+1+1) xaa) bT;have aM:=lJ (m:=0) a0 (hR g) (ar (w.heap.size+1+1) xaa) n1;have aQ:=lJ (m:=0) a0 (hR g) (ar (w.heap.size+1+1) xaa) T;have bC:=far2 (m:=0) a0 (hR g) (ar (w.heap.size+1+1) xaa) H;have aN:=far2 (m:=0) a0 (hR g) (ar (w.heap.size+1+1) xaa) i;have a2:=far2 (m:=0) a0 (hR g) (ar (w.heap.size+1+1) xaa) b2;have R1:V _:=ay;have R2:V _:=aW;clear ay aW bQ a0 cd al ar aZ bo HK bu aX an a8 aV p2 bF a9 ba be bi s ee g bT n1 T H i b2 bO;go_wp2_with fail
 have f:∀R,(R=w.heap.size\/R=w.heap.size+1+1)->(hC g9 (vs.length+1) cap9).ownBlock≠some R:=λR aS e=>by
  have z:g9=R:=by simpa[Value.ownBlock] using e
  omega
 have ch:=eJ (o:=2) (u:=.slice Z m3 af) (eJ (o:=1) (u:=hC g9 (vs.length+1) cap9) (eJ (o:=0) (u:=.slice O m1 e1) (eJ (o:=1) (u:=hC g9 (vs.length+1) cap9) R1.o (f w.heap.size (.inl rfl))) (f (w.heap.size+1+1) (.inr rfl))) (f (w.heap.size+1+1) (.inr rfl))) (f (w.heap.size+1+1) (.inr rfl));have j:(bg.setCell ⟨w.heap.size,1,none⟩ (hC g9 (vs.length+1) cap9)).cell? ⟨w.heap.size+1+1,0,none⟩=_:=(eM _ _ _ _ _ _ (.inl xaa)).trans bb;have n:(bg.setCell ⟨w.heap.size,1,none⟩ (hC g9 (vs.length+1) cap9)).cell? ⟨w.heap.size+1+1,1,none⟩=_:=(eM _ _ _ _ _ _ (.inl xaa)).trans aM;have x:(bg.setCell ⟨w.heap.size,1,none⟩ (hC g9 (vs.length+1) cap9)).cell? ⟨w.heap.size+1+1,2,none⟩=_:=(eM _ _ _ _ _ _ (.inl xaa)).trans aQ;obtain⟨aT,ao,aG⟩:=eZ (bg.setCell ⟨w.heap.size,1,none⟩ (hC g9 (vs.length+1) cap9)) (w.heap.size+1+1) _ _ _ j n x (.slice O m1 e1) (hC g9 (vs.length+1) cap9) (.slice Z m3 af);have aL:=StQ.new R2.o (eP (lo:=w.heap.size) (hi:=w.heap.size+1) bg ⟨w.heap.size,1,none⟩ (hC g9 (vs.length+1) cap9) yac) yad;have aJ:=StQ.new aL (fg (bg.setCell ⟨w.heap.size,1,none⟩ (hC g9 (vs.length+1) cap9)) (w.heap.size+1+1) (.slice O m1 e1) (hC g9 (vs.length+1) cap9) (.slice Z m3 af)) xaa;refine yaz (v:=eV O m1 e1 (some ⟨g9,0,none⟩) (vs.length+1) cap9 Z m3 af) (by simp[results,results38,go_sem,aT,ao,aG]) rfl ⟨g9,cap9,rfl,ch,aJ⟩
theorem Di(w a1 Y a3 n1 c1 T c2 n3 c3 a n)(h:0<=a):
  Calls prog 166 #[eV a1 n1 c1 Y T c2 a3 n3 c3,hD a,hD n] w λe I=>e=.returned (.tuple #[eV a1 n1 c1 Y T c2 a3 n3 c3,hD a])/\Kept 0 0 w I:=by
 go_enter func166,ntmps166;go_wp2_with fail;refine yaz (v:=.tuple #[eV a1 n1 c1 Y T c2 a3 n3 c3,hD a]) (by simp[results,results166,go_sem]) rfl ⟨rfl,(ez 0 0 w _).trans (ez 0 0 _ _)⟩
structure SG(w:World)(P:Nat)(b1:Option Addr)(m1 e1:Nat)(b3:Option Addr)(m3 e3:Nat)(vs:List Vl)(base:Nat)(R:Option Nat)(a2:Option Addr)(cap:Nat):Prop where
 lt:P<w.heap.size
 free:∀o,w.frozen? ⟨P,o,none⟩=false
 c0:w.cell? ⟨P,0,none⟩=some (.slice b1 m1 e1)
 c1:w.cell? ⟨P,1,none⟩=some (.slice a2 vs.length cap)
 c2:w.cell? ⟨P,2,none⟩=some (.slice b3 m3 e3)
 own:w.ownsRow base 60 6 (.slice a2 vs.length cap) vs.length (fK vs)
 row:(Value.slice a2 vs.length cap).ownBlock=R
 ne:R≠some P
 sz:base<=w.heap.size
theorem SG.keep{e1}(h:SG w P O m1 e1 Z m3 af vs base U Y cap)(k:Kept 0 0 w I):SG I P O m1 e1 Z m3 af vs base U Y cap:=
 have e:∀o,I.cell? ⟨P,o,none⟩=w.cell? ⟨P,o,none⟩:=λo=>k.cell (p:=⟨P,o,none⟩) h.lt xaa
 ⟨yak h.lt k.size,λo=>by rw[k.frozen h.lt xaa];exact h.free o,hO e h.c0,hO e h.c1,hO e h.c2,eR h.own k,h.row,h.ne,yao h.sz k.size⟩
def fw(w:World)(P:Nat)(x y z:Value):World:=((w.setCell ⟨P,0,none⟩ x).setCell ⟨P,1,none⟩ y).setCell ⟨P,2,none⟩ z
theorem SG.put{w aO ag P m1 e1 m3 af base cap aB cap' O Z Y vs v U}(h:SG w P O m1 e1 Z m3 af vs base U Y cap)(k:Kept 0 0 w aO)
  (own:ag.ownsRow base 60 6 (hC aB (vs.length+1) cap') (vs.length+1) (fK (vs++[v]))) (s:StQ (λ_=>False) U aO (some aB) ag):
  SG (fw ag P (.slice O m1 e1) (hC aB (vs.length+1) cap') (.slice Z m3 af)) P O m1 e1 Z m3 af (vs++[v]) base (some aB) (some ⟨aB,0,none⟩) cap'/\StQ (λi=>i=P) U w (some aB) (fw ag P (.slice O m1 e1) (hC aB (vs.length+1) cap') (.slice Z m3 af)):=by
 have aC:=h.lt;have ci:=k.size
 have cf:aB≠P:=by
  rcases s.row with e|⟨r,e,av⟩
  ·exact λc=>h.ne (by rw[<-e,c])
  grind
 have hb:=s.chg.block P xaa (by rintro (c|c);exact c;exact h.ne c);have e:∀o,_:=λo=>(World.cell?_of_block hb).trans (k.cell (p:=⟨P,o,none⟩) h.lt xaa);have j:∀o,_:=λo=>(World.frozen?_of_block hb).trans (k.frozen (p:=⟨P,o,none⟩) h.lt xaa);obtain⟨bb,aM,aQ⟩:=eZ _ P _ _ _ ((e 0).trans h.c0) ((e 1).trans h.c1) ((e 2).trans h.c2) (.slice O m1 e1) (hC aB (vs.length+1) cap') (.slice Z m3 af);have K:=fg ag P (.slice O m1 e1) (hC aB (vs.length+1) cap') (.slice Z m3 af);have ab:(vs++[v]).length=vs.length+1:=by simp
 have f:(hC _ (vs.length+1) cap').ownBlock≠some P:=λc=>cf (by simpa[Value.ownBlock] using c);refine⟨⟨?_,λo=>?_,bb,hO ab aM,aQ,?_,rfl,λc=>cf (by simpa using c),?_⟩,⟨?_,?_,?_,?_,λi hi hn=>?_⟩,?_⟩
 ·have:=K.size;have:=s.chg.size;unfold fw;omega
 ·unfold fw;simp[j o,h.free o]
 ·rw[ab];exact eJ (eJ (eJ own f) f) f
 ·have:=K.size;have:=s.chg.size;have:=h.sz;unfold fw;omega
 ·exact K.os.trans (s.chg.os.trans k.os)
 ·exact K.tape.trans (s.chg.tape.trans k.tape)
 ·exact K.output.trans (s.chg.output.trans k.output)
 ·have:=K.size;have:=s.chg.size;unfold fw;omega
 ·unfold fw;rw[K.block i (hM s.chg.size) (λc=>hn (.inl xaa)),s.chg.block i xaa (by grind)];exact k.block i hi xaa
 rcases s.row with c|⟨r,c,av⟩<;>grind
theorem SG.call{w aO P m1 e1 m3 af base cap O Z Y vs U}(h:SG w P O m1 e1 Z m3 af vs base U Y cap)(k:Kept 0 0 w aO)(v)(hn:vs.length<=1000000):
  Calls prog 38 #[eV O m1 e1 Y vs.length cap Z m3 af,v.agg] aO λe ag=>∃aB cap',e=.returned (eV O m1 e1 (some ⟨aB,0,none⟩) (vs.length+1) cap' Z m3 af)/\
   (∃u,ag.cell? ⟨P,0,none⟩=some u)/\(∃u,ag.cell? ⟨P,1,none⟩=some u)/\(∃u,ag.cell? ⟨P,2,none⟩=some u)/\(∀o,ag.frozen? ⟨P,o,none⟩=false)/\
   V (SG (fw ag P (.slice O m1 e1) (hC aB (vs.length+1) cap') (.slice Z m3 af)) P O m1 e1 Z m3 af (vs++[v]) base (some aB) (some ⟨aB,0,none⟩) cap'/\StQ (λi=>i=P) U w (some aB) (fw ag P (.slice O m1 e1) (hC aB (vs.length+1) cap') (.slice Z m3 af))):=by
 have B:=h.keep k;refine(se _ _ _ _ _ _ _ _ _ _ _ v B.own B.sz hn).mono ?_;rintro e ag ⟨aB,cap',rfl,own,s⟩;rw[h.row]at s;have hb:=s.chg.block P B.lt (by rintro (c|c);exact c;exact h.ne c);have e:∀o,_:=λo=>World.cell?_of_block (a:=⟨P,o,none⟩) hb;have j:∀o,_:=λo=>World.frozen?_of_block (a:=⟨P,o,none⟩) hb;exact⟨_,_,rfl,⟨_,(e 0).trans B.c0⟩,⟨_,(e 1).trans B.c1⟩,⟨_,(e 2).trans B.c2⟩,λo=>by rw[j];exact B.free o,h.put k own s⟩
theorem RB.stq{W bH O ax}(t:RB W p bH O ax)(s:StQ (λi=>i=P) U W R' W')(aK:p≠P)(C:U≠some p):RB W' p bH O ax:=by
 have hn:¬((λi=>i=P) p\/U=some p):=by grind
 have e:∀o,_:=λo=>s.chg.cell (p:=⟨p,o,none⟩) t.sz hn;have f:∀o,_:=λo=>s.chg.frozen (p:=⟨p,o,none⟩) t.sz hn;exact⟨yak t.sz s.chg.size,hO e t.q0,hO e t.q1,hO e t.q2,hO f t.f0,hO f t.f1,hO f t.f2⟩
theorem StQ.keepQ(s:StQ Q U w R' I)(k:Kept 0 0 I m):StQ Q U w R' m:=s.new (l:=w.heap.size) (h:=w.heap.size) (k.mono λ_ _ c=>by omega) yad
theorem StQ.drop{g}(s:StQ (λi=>i=P) U g R' W')(k:Kept 0 0 w g)(hP:w.heap.size<=P):StQ (λ_=>False) U w R' W':=
 ⟨⟨s.chg.os.trans k.os,s.chg.tape.trans k.tape,s.chg.output.trans k.output,yao k.size s.chg.size,λi hi hn=>by
   rw[s.chg.block i (yak hi k.size) (by grind)]
   exact k.block i hi xaa⟩,by
   rcases s.row with c|⟨r,c,av⟩
   ·exact .inl c
   ·exact .inr ⟨r,c,yao k.size av⟩⟩
theorem StQ.far{R}(s:StQ Q U w (some aB) W')(aS:R<w.heap.size)(C:U≠some R):aB≠R:=by
 rcases s.row with c|⟨r,c,av⟩<;>grind
theorem Dj(w O Y Z m1 e1 cap m3 af base vs a n)(h:w.ownsRow base 60 6 (.slice Y vs.length cap) vs.length (fK vs))(hb:base<=w.heap.size)(hn:vs.length<=900000)(F:a<0):
  Calls prog 166 #[eV O m1 e1 Y vs.length cap Z m3 af,hD a,hD n] w λe I=>∃aB cap',e=.returned (.tuple #[eV O m1 e1 (some ⟨aB,0,none⟩) (vs.length+1) cap' Z m3 af,hD (vs.length:Nat)])/\I.ownsRow base 60 6 (hC aB (vs.length+1) cap') (vs.length+1) (fK (vs++[eL 1 n 0 0 0]))/\StQ (λ_=>False) (Value.slice Y vs.length cap).ownBlock w (some aB) I:=by
 have aj:=ez 0 0 w (eW O m1 e1 Y vs.length cap Z m3 af);have ah:=ez 0 0 (w.alloc (eW O m1 e1 Y vs.length cap Z m3 af)) fj;have bv:=(ft w _ _ _).keep ah
 have aZ:SG _ _ _ _ _ _ _ _ _ _ _ _ _:=
  ⟨bv.sz,λo=>by simp,bv.q0,bv.q1,bv.q2,eR h (aj.trans ah),rfl,λe=>hM ((eH h e).2),by simp;omega⟩
 have bw:=fF (w.alloc (eW O m1 e1 Y vs.length cap Z m3 af));rw[show(w.alloc _).heap.size=w.heap.size+1 by simp]at bw;have bu:V _:=bw;have au:V _:=aZ;have HK:V _:=aj.trans ah;have HR:V (∀R,w.heap.size<=R->(Value.slice Y _ _).ownBlock≠some R):=λR aS e=>hM ((eH h e).2)
 have a8:=aZ.c0;have aV:=aZ.c1;have p2:=aZ.c2;have bG:=aZ.free;clear h aj ah bv aZ bw;go_enter func166,ntmps166;go_upto_region 3 with fail;generalize (w.alloc _).alloc _=g at bu au HK a8 aV p2 bG⊢;go_cut [] (λcl=>∃aB cap',V (SG cl w.heap.size O m1 e1 Z m3 af (vs++[eL 1 n 0 0 0]) base (some aB) (some ⟨aB,0,none⟩) cap'/\StQ (λi=>i=w.heap.size) (Value.slice Y vs.length cap).ownBlock g (some aB) cl))
 case first=>
  go_region_with (first
   |(go_at_call 38;refine yaj (SG.call au.o ((eF g).trans aj) (eL 1 n 0 0 0) xaa) ?_;rintro e ag ⟨aB,cap',rfl,⟨u0,bm⟩,⟨u1,ay⟩,⟨u2,aW⟩,ae,bP⟩)
   |(go_at_call 65;refine yaj (pw _ _) ?_;rintro e aO ⟨rfl,aj⟩;obtain⟨_,_,aT,ao,aG,_,_,_,_⟩:=SG.keep au.o ((eF g).trans aj)))
  all_goals (go_wp2_with fail;go_meet;exact⟨aB,cap',bP⟩)
 case rest=>
  obtain⟨aB,cap',bP⟩:=hcut;have ab:(vs++[eL 1 n 0 0 0]).length=vs.length+1:=by simp
  obtain⟨aN,a2,bk,bq,co,s,v,x,z⟩:=bP.o.1;have j:(Value.slice Y _ _).ownBlock≠some (w.heap.size+1):=λe=>HR.o _ xaa e;have bi:V _:=RB.stq bu.o bP.o.2 xaa j;rw[ab]at bq s;have HO:V _:=s;clear aN a2 s v x z a8 aV p2 bG;have aK:V _:=λW=>jf W O (some ⟨aB,0,none⟩) Z m1 e1 (vs.length+1) cap' m3 af xaa;rw[show((vs.length+1:Nat):Int)-1=vs.length by omega]at aK;have t:V (∀W,Kept 0 0 _ W->SG W _ _ _ _ _ _ _ _ _ _ _ _/\RB W _ _ _ _):=λW k=>⟨bP.o.1.keep k,RB.keep bi.o k⟩
  have al:V (∀W,Kept 0 0 _ W->(fw W _ (.slice O m1 e1) (hC aB (vs.length+1) cap') (.slice Z m3 af)).ownsRow _ _ 6 _ _ _/\StQ _ _ w _ (fw W _ (.slice O m1 e1) (hC aB (vs.length+1) cap') (.slice Z m3 af))):=λW k=>by
   have cf:=bP.o.2.far bu.o.sz j
   have f:(hC _ (vs.length+1) cap').ownBlock≠some _:=λc=>cf (by simpa[Value.ownBlock] using c)
   refine⟨eJ (eJ (eJ (eR HO.o k) f) f) f,?_⟩
   exact((bP.o.2.drop HK.o yad).keepQ k).new (fg W (w.heap.size+1) _ _ _) xaa
  clear bu au bi HO HR j;go_upto_region 4 with fail
  go_region_with (first
   |(go_at_call 41;refine yaj (aK.o _) ?_;rintro e a7 ⟨rfl,aF⟩;obtain⟨⟨_,_,aT,ao,aG,_,_,_,_⟩,⟨_,bf,aP,aY,bI,bB,bE⟩⟩:=t.o a7 ((eF wc).trans aF);rw[ab]at ao;have cH:V _:=al.o a7 ((eF wc).trans aF)))
  all_goals
   go_wp2_with fail
   obtain⟨bb,aM,aQ⟩:=eZ a7 (w.heap.size+1) _ _ _ bf aP aY (.slice O m1 e1) (hC aB (vs.length+1) cap') (.slice Z m3 af)
   refine yaz (v:=.tuple #[eV O m1 e1 (some ⟨aB,0,none⟩) (vs.length+1) cap' Z m3 af,hD (vs.length:Nat)]) (by simp[results,results166,go_sem,bb,aM,aQ]) rfl ⟨aB,cap',rfl,cH.o.1,cH.o.2⟩
def MvP(w:World)(b1:Option Addr)(m1 e1:Nat)(b3:Option Addr)(m3 e3:Nat)(vs:List Vl)(base:Nat)(R:Option Nat)(M:List Vl×Int)(e:Ending)(w':World):Prop:=
 ∃a2' cap' R',e=.returned (.tuple #[eV b1 m1 e1 a2' (vs++M.1).length cap' b3 m3 e3,.int .i64 M.2])/\w'.ownsRow base 60 6 (.slice a2' (vs++M.1).length cap') (vs++M.1).length (fK (vs++M.1))/\(Value.slice a2' (vs++M.1).length cap').ownBlock=R'/\StQ (λ_=>False) R w R' w'
theorem At.stq{W o v}(t:At W p o v)(ab:p<W.heap.size)(s:StQ (λi=>i=P) U W R' W')(aK:p≠P)(C:U≠some p):At W' p o v:=by
 have hn:¬((λi=>i=P) p\/U=some p):=by grind
 have e:∀o,_:=λo=>s.chg.cell (p:=⟨p,o,none⟩) ab hn;obtain⟨bd,aL,aJ,bS,au,ck⟩:=t;exact⟨by grind,by grind,by grind,by grind,by grind,by grind⟩
theorem StQ.seq{f W g}(a:StQ Q U w R' W)(b:StQ f R' W g W')(h:∀i,i<w.heap.size->¬f i):StQ Q U w g W' where
 chg:=⟨b.chg.os.trans a.chg.os,b.chg.tape.trans a.chg.tape,b.chg.output.trans a.chg.output,yao a.chg.size b.chg.size,λk N hn=>by
  rw[b.chg.block k (yak N a.chg.size) ?_]
  ·exact a.chg.block k N hn
  ·rintro (c|c)
   ·grind
   ·rcases a.row with e|⟨r,e,av⟩<;>grind⟩
 row:=by
  rcases b.row with e|⟨r,e,av⟩
  ·rw[e];exact a.row
  exact .inr ⟨r,e,yao a.chg.size av⟩
structure MS(w W:World)(b1:Option Addr)(m1 e1:Nat)(b3:Option Addr)(m3 e3:Nat)(vs:List Vl)(v:Vl)(base:Nat)(R R':Option Nat)(a2:Option Addr)(cap:Nat):Prop where
 g:SG W w.heap.size b1 m1 e1 b3 m3 e3 vs base R' a2 cap
 b:RB W (w.heap.size+1) (.slice none 0 0) (.slice none 0 0) (.slice none 0 0)
 v:At W (w.heap.size+1+1) 0 v
 lt:w.heap.size+1+1<W.heap.size
 n1:R'≠some (w.heap.size+1)
 n2:R'≠some (w.heap.size+1+1)
 s:StQ (λ_=>False) R w R' W
theorem MS.keep{W e1 v}(h:MS w W O m1 e1 Z m3 af vs v base U R' Y cap)(k:Kept 0 0 W W'):MS w W' O m1 e1 Z m3 af vs v base U R' Y cap:=
 ⟨h.g.keep k,h.b.keep k,h.v.keep h.lt k yaa,yak h.lt k.size,h.n1,h.n2,h.s.keepQ k⟩
theorem MS.start{e1}(v)(h:w.ownsRow base 60 6 (.slice Y vs.length cap) vs.length (fK vs))(hb:base<=w.heap.size):
  MS w (((w.alloc (eW O m1 e1 Y vs.length cap Z m3 af)).alloc fj).alloc (fB v.op v.len v.a v.b v.c v.k)) O m1 e1 Z m3 af vs v base (Value.slice Y vs.length cap).ownBlock (Value.slice Y vs.length cap).ownBlock Y cap:=by
 have aj:=ez 0 0 w (eW O m1 e1 Y vs.length cap Z m3 af);have ah:=ez 0 0 (w.alloc (eW O m1 e1 Y vs.length cap Z m3 af)) fj;have aF:=ez 0 0 ((w.alloc (eW O m1 e1 Y vs.length cap Z m3 af)).alloc fj) (fB v.op v.len v.a v.b v.c v.k);have bv:=((ft w _ _ _).keep ah).keep aF;have C:∀R,w.heap.size<=R->(Value.slice Y _ _).ownBlock≠some R:=λR aS e=>hM ((eH h e).2)
 have bw:=fF (w.alloc (eW O m1 e1 Y vs.length cap Z m3 af));rw[show(w.alloc _).heap.size=w.heap.size+1 by simp]at bw;have av:=i5 ((w.alloc (eW O m1 e1 Y vs.length cap Z m3 af)).alloc fj) v;rw[show((w.alloc _).alloc _).heap.size=w.heap.size+1+1 by simp]at av;exact⟨⟨bv.sz,λo=>by rw[(ah.trans aF).frozen xac xaa];simp,bv.q0,bv.q1,bv.q2,eR h ((aj.trans ah).trans aF),rfl,C _ yad,by simp;omega⟩,bw.keep aF,av,by simp,C _ xaa,C _ xaa,(StQ.refl _ _ w).keepQ ((aj.trans ah).trans aF)⟩
theorem MS.next{W ag e1 v}(h:MS w W O m1 e1 Z m3 af vs v base U R' Y cap)(k:Kept 0 0 W az)
  (own:ag.ownsRow base 60 6 (hC aB (vs.length+1) cap') (vs.length+1) (fK (vs++[u]))) (s:StQ (λ_=>False) R' az (some aB) ag):
  (∃u,ag.cell? ⟨w.heap.size,0,none⟩=some u)/\(∃u,ag.cell? ⟨w.heap.size,1,none⟩=some u)/\(∃u,ag.cell? ⟨w.heap.size,2,none⟩=some u)/\(∀o,ag.frozen? ⟨w.heap.size,o,none⟩=false)/\At ag (w.heap.size+1+1) 0 v/\
   V (MS w (fw ag w.heap.size (.slice O m1 e1) (hC aB (vs.length+1) cap') (.slice Z m3 af)) O m1 e1 Z m3 af (vs++[u]) v base U (some aB) (some ⟨aB,0,none⟩) cap'):=by
 have B:=h.g.keep k;obtain⟨aL,aJ⟩:=h.g.put k own s;have hb:=s.chg.block _ B.lt (by rintro (c|c);exact c;exact h.g.ne c);have e:∀o,_:=λo=>World.cell?_of_block (a:=⟨w.heap.size,o,none⟩) hb;have j:∀o,_:=λo=>World.frozen?_of_block (a:=⟨w.heap.size,o,none⟩) hb
 have aD:At ag (w.heap.size+1+1) 0 v:=by
  have ab:=yak h.lt k.size;have ak:∀o,_:=λo=>s.chg.cell (p:=⟨_,o,none⟩) ab (by rintro (c|c);exact c;exact h.n2 c);obtain⟨bd,aL,aJ,bS,au,ck⟩:=h.v.keep h.lt k yaa;exact⟨by grind,by grind,by grind,by grind,by grind,by grind⟩
 exact⟨⟨_,(e 0).trans B.c0⟩,⟨_,(e 1).trans B.c1⟩,⟨_,(e 2).trans B.c2⟩,λo=>by rw[j];exact B.free o,aD,aL,h.b.stq aJ xaa h.n1,h.v.stq h.lt aJ xaa h.n2,yak h.lt aJ.chg.size,
  λc=>aJ.far (Nat.lt_trans yaf h.lt) h.n1 (by simpa using c),λc=>aJ.far h.lt h.n2 (by simpa using c),h.s.seq aJ (λi hi c=>by omega)⟩
theorem MS.call{w W az m1 e1 m3 af base cap O Z Y vs v U R'}(h:MS w W O m1 e1 Z m3 af vs v base U R' Y cap)(k:Kept 0 0 W az)(u)(hn:vs.length<=1000000):
  Calls prog 38 #[eV O m1 e1 Y vs.length cap Z m3 af,u.agg] az λe ag=>∃aB cap',e=.returned (eV O m1 e1 (some ⟨aB,0,none⟩) (vs.length+1) cap' Z m3 af)/\
   (∃u,ag.cell? ⟨w.heap.size,0,none⟩=some u)/\(∃u,ag.cell? ⟨w.heap.size,1,none⟩=some u)/\(∃u,ag.cell? ⟨w.heap.size,2,none⟩=some u)/\(∀o,ag.frozen? ⟨w.heap.size,o,none⟩=false)/\At ag (w.heap.size+1+1) 0 v/\
   V (MS w (fw ag w.heap.size (.slice O m1 e1) (hC aB (vs.length+1) cap') (.slice Z m3 af)) O m1 e1 Z m3 af (vs++[u]) v base U (some aB) (some ⟨aB,0,none⟩) cap'):=by
 have B:=h.g.keep k;refine(se _ _ _ _ _ _ _ _ _ _ _ u B.own B.sz hn).mono ?_;exact xhy
theorem MS.orNone{W e1 v}(h:MS w W O m1 e1 Z m3 af vs v base U R' Y cap)(k:Kept 0 0 W az)(a n)(F:a<0)(hn:vs.length<=900000):
  Calls prog 166 #[eV O m1 e1 Y vs.length cap Z m3 af,hD a,hD n] az λe ag=>∃aB cap',e=.returned (.tuple #[eV O m1 e1 (some ⟨aB,0,none⟩) (vs.length+1) cap' Z m3 af,hD (vs.length:Nat)])/\
   (∃u,ag.cell? ⟨w.heap.size,0,none⟩=some u)/\(∃u,ag.cell? ⟨w.heap.size,1,none⟩=some u)/\(∃u,ag.cell? ⟨w.heap.size,2,none⟩=some u)/\(∀o,ag.frozen? ⟨w.heap.size,o,none⟩=false)/\At ag (w.heap.size+1+1) 0 v/\
   V (MS w (fw ag w.heap.size (.slice O m1 e1) (hC aB (vs.length+1) cap') (.slice Z m3 af)) O m1 e1 Z m3 af (vs++[eL 1 n 0 0 0]) v base U (some aB) (some ⟨aB,0,none⟩) cap'):=by
 have B:=h.g.keep k;refine(Dj _ _ _ _ _ _ _ _ _ _ _ a n B.own B.sz hn F).mono ?_;exact xhy
theorem MS.orSome{W e1 v}(h:MS w W O m1 e1 Z m3 af vs v base U R' Y cap)(k:Kept 0 0 W az)(a n)(F:0<=a):
  Calls prog 166 #[eV O m1 e1 Y vs.length cap Z m3 af,hD a,hD n] az λe ag=>e=.returned (.tuple #[eV O m1 e1 Y vs.length cap Z m3 af,hD a])/\
   (∃u,ag.cell? ⟨w.heap.size,0,none⟩=some u)/\(∃u,ag.cell? ⟨w.heap.size,1,none⟩=some u)/\(∃u,ag.cell? ⟨w.heap.size,2,none⟩=some u)/\(∀o,ag.frozen? ⟨w.heap.size,o,none⟩=false)/\At ag (w.heap.size+1+1) 0 v/\
   V (MS w (fw ag w.heap.size (.slice O m1 e1) (.slice Y vs.length cap) (.slice Z m3 af)) O m1 e1 Z m3 af vs v base U R' Y cap):=by
 refine(Di _ _ _ _ _ _ _ _ _ _ a n F).mono ?_;rintro e ag ⟨rfl,ah⟩;have J:=h.keep (k.trans ah);have K:=fg ag w.heap.size (.slice O m1 e1) (.slice Y vs.length cap) (.slice Z m3 af);obtain⟨bb,aM,aQ⟩:=eZ _ _ _ _ _ J.g.c0 J.g.c1 J.g.c2 (.slice O m1 e1) (.slice Y vs.length cap) (.slice Z m3 af);have f:(Value.slice Y vs.length cap).ownBlock≠some w.heap.size:=hO J.g.row J.g.ne
 have ch:∀R o,R≠w.heap.size->R<ag.heap.size->(fw ag _ _ _ _).cell? _=ag.cell? ⟨R,o,none⟩:=λR o aS ab=>K.cell ab (by grind);have j:∀R o,R≠w.heap.size->R<ag.heap.size->(fw ag _ _ _ _).frozen? _=ag.frozen? ⟨R,o,none⟩:=λR o aS ab=>K.frozen ab (by grind);obtain⟨bk,bf,aP,aY,bI,bB,bE⟩:=J.b;obtain⟨bF,a9,ba,be,bi,s⟩:=J.v
 refine⟨rfl,⟨_,J.g.c0⟩,⟨_,J.g.c1⟩,⟨_,J.g.c2⟩,J.g.free,J.v,⟨yak J.g.lt K.size,λo=>?_,bb,aM,aQ,eJ (eJ (eJ J.g.own f) f) f,J.g.row,J.g.ne,yao J.g.sz K.size⟩,
  ⟨yak bk K.size,by grind,by grind,by grind,by grind,by grind,by grind⟩,
  ⟨by rw[ch _ _ xaa J.lt];exact bF,by rw[ch _ _ xaa J.lt];exact a9,by rw[ch _ _ xaa J.lt];exact ba,by rw[ch _ _ xaa J.lt];exact be,by rw[ch _ _ xaa J.lt];exact bi,by rw[ch _ _ xaa J.lt];exact s⟩,yak J.lt K.size,J.n1,J.n2,J.s.new K yad⟩
 unfold fw;simp[J.g.free o]
theorem MS.fin{W e1 vs0 v M}(h:MS w W O m1 e1 Z m3 af vs v base U R' Y cap)(k:Kept 0 0 W W')(aD:vs=vs0++M.1):
  MvP w O m1 e1 Z m3 af vs0 base U M (.returned (.tuple #[eV O m1 e1 Y vs.length cap Z m3 af,hD M.2])) (fw W' (w.heap.size+1) (.slice O m1 e1) (.slice Y vs.length cap) (.slice Z m3 af)):=by
 exact xei
theorem mi(w:World)(P R o x y z)(h:R≠P):(((w.setCell ⟨P,0,none⟩ x).setCell ⟨P,1,none⟩ y).setCell ⟨P,2,none⟩ z).cell? ⟨R,o,none⟩=w.cell? ⟨R,o,none⟩:=by
 exact xhd
end
section
def pQ(n:Nat):Code->Option Code
 |.region i ops d=>if i=n then some (.region i ops d)else none
 |.seq a b=>match pQ n a with
  |some c=>some c
  |none=>pQ n b
 |.cond _ a b=>match pQ n a with
  |some c=>some c
  |none=>pQ n b
 |.block _ c=>pQ n c
 |.scope c=>pQ n c
 |.loop c=>pQ n c
 |_=>none
noncomputable def P1 (n:Nat):Code:=(Tryz.f165.body.bind (pQ n)).getD .skip
theorem fx{P}{c:Code}{K Q a w}(h:c.wp P (Exit.then K λ_ _ _=>False) a w):c.wp P (Exit.then K Q) a w:=by
 exact xiw
variable{w W:World}{O Z Y:Option Addr}{m1 e1 cap m3 af base ap i:Nat}{vs:List Vl}{v:Vl}{aH:Int}{U R':Option Nat}
structure MvH(w:World)(cap base g2 i:Nat)(vs:List Vl)(v:Vl):Prop where
 h:w.ownsRow base 60 6 (.slice (some ⟨g2,0,none⟩) vs.length cap) vs.length (fK vs)
 hb:base<=w.heap.size
 hn:vs.length<=800000
 hi:i<vs.length
 hv:At w g2 (i*6) v
theorem MvH.op(H:MvH w cap base ap i vs v)(O Z m1 e1 m3 af):At w ap (i*6) v/\0<=(i:Int)/\(i:Int)<vs.length/\ap<w.heap.size/\∃g,
  V (((w.alloc (eW O m1 e1 (some ⟨ap,0,none⟩) vs.length cap Z m3 af)).alloc fj).alloc (fB v.op v.len v.a v.b v.c v.k)=g)/\vs.length<=800000/\V (MS w g O m1 e1 Z m3 af vs v base (some ap) (some ap) (some ⟨ap,0,none⟩) cap)/\V (w.ownsRow base 60 6 (hC ap vs.length cap) vs.length (fK vs)):=
 ⟨H.hv,by omega,hM H.hi,(eH H.h (k:=ap) rfl).2,_,rfl,H.hn,MS.start v H.h H.hb,H.h⟩
theorem MS.lst(h:MS w W O m1 e1 Z m3 af vs v base U R' Y cap)(hn:vs.length<=1000000)(bw:(vs.length:Int)-1=aH):Calls prog 41 #[eV O m1 e1 Y vs.length cap Z m3 af] W λe I=>e=.returned (hD aH)/\V (MS w I O m1 e1 Z m3 af vs v base U R' Y cap):=
 (jf W O Y Z m1 e1 vs.length cap m3 af hn).mono λ_ _ q=>⟨bw ▸ q.1,h.keep q.2⟩
def MpR(w:World)(b1:Option Addr)(m1 e1:Nat)(b3:Option Addr)(m3 e3:Nat)(vs:List Vl)(v:Vl)(base:Nat)(R:Option Nat)(x:Vl)(W':World):Prop:=
 ∃us g' cap',V (us=vs++[x]/\us.length=vs.length+1)/\us.length<=vs.length+1/\V (MS w W' b1 m1 e1 b3 m3 e3 us v base R (some g') (some ⟨g',0,none⟩) cap')
def MfK(R:World->Prop)(p0 p1 p2 p3 p4 p5 p6 p7 p8 p9 p10 p12 p13 p14 p15 p16 p17 p18 p19 q11:Value)(K:Act->World->Prop):Prop:=∀{a b c d e f g h i j k l m n o p q r s t u v w x y z A B C D E F G H I J L M N O P Q S T U Vaa W X Y Z aa ab ad ae af ag ah ai aj ak al am an ao ap aq ar au av aw ax ay az aA aB aC aD aE aF aG aH aI aJ aK aL aM aN aO aP aQ aR aS aT aU aV aW aX aY aZ a0 a1 a2 a3 a4 a5 a6 a7 a8 a9 ba bb bc bd be bf bg bh bi bj bk bl bm bn bo bp bq br bs bt bu bv bw bx bz bA bB bC bD bE bF bG bH bI bJ bK bL bM bN bO bP bQ bR bS bT bU bV bW bX bY bZ b0 b1 b2 b3 b4 b5 b6 b7 b8 b9 ca cb cc cd ce cf cg ch ci cj ck cl cm cn co cp cq cr cs ct cu cv cw cx cy cz cA cB cC cD cE cF cG cH cI cJ cK cL cM cN cO cP cQ cR cS cT cU cV cW cX cY cZ c0 c1 c2 c3 c4 c5 c6 c7 c8 c9 da db dc dd de df:Value} (W':World),R W'->K ⟨#[p0,p1,p2,p3,p4,p5,p6,p7,p8,p9,p10,q11,p12,p13,p14,p15,p16,p17,p18,p19,a,b,c,d,e,f,g,h,i,j,k,l,m,n,o,p,q,r,s,t,u,v,w,x,y,z,A,B,C,D,E,F,G,H,I,J,L,M,N,O,P,Q,S,T,U,Vaa,W,X,Y,Z,aa,ab,ad,ae,af,ag,ah,ai,aj,ak,al,am,an,ao,ap,aq,ar,au,av,aw,ax,ay,az,aA,aB,aC,aD,aE,aF,aG,aH,aI,aJ,aK,aL,aM,aN,aO,aP,aQ,aR,aS,aT,aU,aV,aW,aX,aY,aZ,a0,a1,a2,a3,a4,a5,a6,a7,a8,a9,ba,bb,bc,bd,be,bf,bg,bh,bi,bj,bk,bl,bm,bn,bo,bp,bq,br,bs,bt,bu,bv,bw,bx,bz,bA,bB,bC,bD,bE,bF,bG,bH,bI,bJ,bK,bL,bM,bN,bO,bP,bQ,bR,bS,bT,bU,bV,bW,bX,bY,bZ,b0,b1,b2,b3,b4,b5,b6,b7,b8,b9,ca,cb,cc,cd,ce,cf,cg,ch,ci,cj,ck,cl,cm,cn,co,cp,cq,cr,cs,ct,cu,cv,cw,cx,cy,cz,cA,cB,cC,cD,cE,cF,cG,cH,cI,cJ,cK,cL,cM,cN,cO,cP,cQ,cR,cS,cT,cU,cV,cW,cX,cY,cZ,c0,c1,c2,c3,c4,c5,c6,c7,c8,c9,da,db,dc,dd,de,df],[]⟩ W'
def MfC(n:Nat)(W:World)(R:World->Prop)(a b c d e f g h i j k u l m o p q r s t v:Value):Prop:=
 ∀{K:Act->World->Prop}{w x y z A B C D E F G H I J L M N O P Q S T U Vaa X Y Z aa ab ad ae af ag ah ai aj ak al am an ao ap aq ar au av aw ax ay az aA aB aC aD aE aF aG aH aI aJ aK aL aM aN aO aP aQ aR aS aT aU aV aW aX aY aZ a0 a1 a2 a3 a4 a5 a6 a7 a8 a9 ba bb bc bd be bf bg bh bi bj bk bl bm bn bo bp bq br bs bt bu bv bw bx bz bA bB bC bD bE bF bG bH bI bJ bK bL bM bN bO bP bQ bR bS bT bU bV bW bX bY bZ b0 b1 b2 b3 b4 b5 b6 b7 b8 b9 ca cb cc cd ce cf cg ch ci cj ck cl cm cn co cp cq cr cs ct cu cv cw cx cy cz cA cB cC cD cE cF cG cH cI cJ cK cL cM cN cO cP cQ cR cS cT cU cV cW cX cY cZ c0 c1 c2 c3 c4 c5 c6 c7 c8 c9 da db dc dd de df dg dh di dj dk dl dm dn dp dq dr ds dt du dv dw dx dy dz dA dB dC dD:Value},MfK R a b c d e f g h i j k l m o p q r s t v K->Code.wp prog (P1 n) (Exit.then K λ_ _ _=>False) ⟨#[a,b,c,d,e,f,g,h,i,j,k,u,l,m,o,p,q,r,s,t,w,x,y,z,A,B,C,D,E,F,G,H,I,J,L,M,N,O,P,Q,S,T,U,Vaa,X,Y,Z,aa,ab,ad,ae,af,ag,ah,ai,aj,ak,al,am,an,ao,ap,aq,ar,au,av,aw,ax,ay,az,aA,aB,aC,aD,aE,aF,aG,aH,aI,aJ,aK,aL,aM,aN,aO,aP,aQ,aR,aS,aT,aU,aV,aW,aX,aY,aZ,a0,a1,a2,a3,a4,a5,a6,a7,a8,a9,ba,bb,bc,bd,be,bf,bg,bh,bi,bj,bk,bl,bm,bn,bo,bp,bq,br,bs,bt,bu,bv,bw,bx,bz,bA,bB,bC,bD,bE,bF,bG,bH,bI,bJ,bK,bL,bM,bN,bO,bP,bQ,bR,bS,bT,bU,bV,bW,bX,bY,bZ,b0,b1,b2,b3,b4,b5,b6,b7,b8,b9,ca,cb,cc,cd,ce,cf,cg,ch,ci,cj,ck,cl,cm,cn,co,cp,cq,cr,cs,ct,cu,cv,cw,cx,cy,cz,cA,cB,cC,cD,cE,cF,cG,cH,cI,cJ,cK,cL,cM,cN,cO,cP,cQ,cR,cS,cT,cU,cV,cW,cX,cY,cZ,c0,c1,c2,c3,c4,c5,c6,c7,c8,c9,da,db,dc,dd,de,df,dg,dh,di,dj,dk,dl,dm,dn,dp,dq,dr,ds,dt,du,dv,dw,dx,dy,dz,dA,dB,dC,dD],[]⟩ W
end
section
attribute[local go_sem] eG eE eD
variable{w:World}{O Z Y:Option Addr}{m1 m3 af base cap aq:Nat}{vs:List Vl}{o G am r ak S:Int}{U R':Option Nat}{c0 c1 c2 c4 aX aC ad X x c aN a2 aU Q ar aw:Value}
theorem L4{W e1 ah}(aa:V (MS w W O m1 e1 Z m3 af vs ⟨o,G,am,r,ak,aq⟩ base U R' Y cap))(an:vs.length<=900000):MfC 5 W (MpR w O m1 e1 Z m3 af vs ⟨o,G,am,r,ak,aq⟩ base U (eL o G ah S 0)) c0 c1 (hD ah) (hD S) c4 (hB w.heap.size) aX aC ad X x c (hB (w.heap.size+1+1)) (hD G) aN a2 aU Q ar aw c:=by
 unfold MfC;intros;rename_i HK;have bc:V (∀az,Kept 0 0 W az->_):=λaz k=>MS.call aa.o k (eL o G ah S 0) xaa;have aT:=aa.o.g.c0;have ao:=aa.o.g.c1;have aG:=aa.o.g.c2;have bF:=aa.o.v.c0;exact xad
theorem MO{W e1}(aa:V (MS w W O m1 e1 Z m3 af vs ⟨o,G,am,r,ak,aq⟩ base U R' Y cap))(an:vs.length<=900000):MfC 10 W (MpR w O m1 e1 Z m3 af vs ⟨o,G,am,r,ak,aq⟩ base U (eL 6 G S 0 0)) c0 c1 c2 (hD S) c4 (hB w.heap.size) aX aC ad X x c (hB (w.heap.size+1+1)) (hD G) aN a2 aU Q ar aw c:=by
 unfold MfC;intros;rename_i HK;have bc:V (∀az,Kept 0 0 W az->_):=λaz k=>MS.call aa.o k (eL 6 G S 0 0) xaa;exact xae
theorem FE{W e1 p q f c3}(aa:V (MS w W O m1 e1 Z m3 af vs ⟨o,G,am,r,ak,aq⟩ base U R' Y cap))(an:vs.length<=900000):MfC 30 W (MpR w O m1 e1 Z m3 af vs ⟨o,G,am,r,ak,aq⟩ base U (eL f G p q 0)) c0 c1 c2 c3 c4 (hB w.heap.size) aX aC ad X x c (hB (w.heap.size+1+1)) (hD G) (hD p) (hD q) (hD f) Q ar aw c:=by
 unfold MfC;intros;rename_i HK;have bc:V (∀az,Kept 0 0 W az->_):=λaz k=>MS.call aa.o k (eL f G p q 0) xaa;exact xae
