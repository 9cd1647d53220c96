import Derived.Test.YtbhmhdllnfkjhaaGreatP20
namespace Go.Proofs.Z
variable{Zp:Prop}
open Tryz Go.RowKit Flt
set_option maxRecDepth 1000000
set_option maxHeartbeats 0
section
variable{v:Vl}{w aO ag a7 W':World}{q P aI n1 n3 base af cap cap' l h':Nat}{xs aw ins outs:List Int}{O Z Y a2':Option Addr}{R' U:Option Nat}{vs vs2:List Vl}
theorem jo{p}[Decidable p]{a b:List Vl×Int}(F:-1<=a.2)(hb:-1<=b.2):-1<=(if p then a else b).2:=by
 grind
theorem L9(n d p q aH):-1<=(chM n d p q aH).2:=by
 unfold chM;grind
theorem Nn(i v ah S an aH)(g:-1<=ah)(K:-1<=S):-1<=(mvM i v ah S an aH).2:=by
 have z:∀{l:List Vl},-1<=(l,(-1:Int)).2:=by simp
 have n:∀{l:List Vl}{m:Nat},-1<=(l,(m:Int)).2:=xaa;unfold mvM yD yE yG yH;exact jo z (jo (jo K (jo g n)) (jo (jo g (jo n n)) (jo (jo (jo z n) (jo n n)) (jo (jo (jo z n) (jo n n)) (jo (L9 _ _ _ _ _) (jo (jo z (L9 _ _ _ _ _)) (jo n n)))))))
theorem GK{j}(h:∀i,-1<=aw.getD i 0):-1<=ovs v aw q j:=by
 unfold ovs;grind
theorem xJ(vs x t):∀k i,-1<=(jst vs x t k).2.getD i 0
 |0,i=>by
  unfold jst
  grind
 |k+1,i=>by
  have Q:=xJ vs x t k
  unfold jst
  simp only
  rw[yai,List.getElem?_set]
  split
  ·split<;>simp_all[jmv,Nn,GK]<;>grind
  simp_all
theorem Cf(vs x t):∀k i,x+k<i->i<vs.length->(jst vs x t k).2.getD i 0=-1
 |0,i,h,hi=>by
  unfold jst
  grind
 |k+1,i,h,hi=>by
  unfold jst
  simp only
  rw[yai,List.getElem?_set,hF xaa,<-yai]
  exact Cf _ x t k i xaa hi
theorem GL{i y}(h:xs.getD i 0=y)(hi:i<xs.length):xs.set i y=xs:=by
 exact xho
theorem GM(vs x t k)(hi:x+1+k<vs.length)(h:∀j,j<cnt (vs.getD (x+1+k) hI).op->(jst vs x t k).2.getD (fld (vs.getD (x+1+k) hI) j).toNat 0=-1):jst vs x t (k+1)=jst vs x t k:=by
 have e:∀j,ovs _ _ _ j=-1:=λj=>by
  unfold ovs;split
  ·exact h j (by assumption)
  ·rfl
 have e2:jmv vs (x+1+k) (jst vs x t k)=([],-1):=by grind[jmv,mvM]
 conv=>lhs;unfold jst
 rw[e2];simp only[List.append_nil];grind[GL,Cf]
def sG(v:Vl)(mv:List Int)(q:Nat):Bool:=(List.range q).any λj=>decide (0<=mv.getD (fld v j).toNat 0)
theorem DW(v aw q):sG v aw (q+1)=(sG v aw q||decide (0<=aw.getD (fld v q).toNat 0)):=by
 simp_all[sG,List.range_succ]
theorem Bh(h:sG v aw q=false)(aR:∀i,-1<=aw.getD i 0):∀j,j<q->aw.getD (fld v j).toNat 0=-1:=λj hj=>by
 unfold sG at h
 grind
theorem DX(h:sG v aw (cnt v.op)=true):¬(ovs v aw (cnt v.op) 0=-1/\ovs v aw (cnt v.op) 1=-1/\ovs v aw (cnt v.op) 2=-1):=by
 rintro⟨ae,B,J⟩;unfold sG at h;rw[List.any_eq_true]at h;obtain⟨j,hj,G⟩:=h;have c:=List.mem_range.1 hj;grind[ovs,fld]
theorem SG.put2{m1 e1 m3}(h:SG w P O m1 e1 Z m3 af vs base U Y cap)(k:Kept 0 0 w aO)
  (own:ag.ownsRow base 60 6 (.slice a2' vs2.length cap') vs2.length (fK vs2)) (Q:(Value.slice a2' vs2.length cap').ownBlock=R') (s:StQ (λ_=>False) U aO R' ag) (ah:Kept l h' ag a7) (ab:w.heap.size<=l) (C:∀g,R'=some g->g<l\/h'<=g):
  SG (fw a7 P (.slice O m1 e1) (.slice a2' vs2.length cap') (.slice Z m3 af)) P O m1 e1 Z m3 af vs2 base R' a2' cap'/\StQ (λi=>i=P) U w R' (fw a7 P (.slice O m1 e1) (.slice a2' vs2.length cap') (.slice Z m3 af)):=by
 have aC:=h.lt;have ci:=k.size
 have cf:R'≠some P:=by
  rcases s.row with e|⟨r,e,av⟩
  ·rw[e];exact h.ne
  grind
 have hb:=s.chg.block P xaa (by rintro (c|c);exact c;exact h.ne c);have aB:P<ag.heap.size:=by grind
 have z:=(ah.block P aB xaa).trans hb;have e:∀o,_:=λo=>(World.cell?_of_block z).trans (k.cell (p:=⟨P,o,none⟩) h.lt xaa);have j:∀o,_:=λo=>(World.frozen?_of_block z).trans (k.frozen (p:=⟨P,o,none⟩) h.lt xaa);obtain⟨bb,aM,aQ⟩:=eZ _ P _ _ _ ((e 0).trans h.c0) ((e 1).trans h.c1) ((e 2).trans h.c2) (.slice O m1 e1) (.slice a2' vs2.length cap') (.slice Z m3 af);have K:=fg a7 P (.slice O m1 e1) (.slice a2' vs2.length cap') (.slice Z m3 af);have f:(Value.slice a2' vs2.length cap').ownBlock≠some P:=by grind
 refine⟨⟨?_,λo=>?_,bb,aM,aQ,eJ (eJ (eJ (fX own ah (λg aR=>C g (Q ▸ aR))) f) f) f,Q,cf,?_⟩,⟨?_,?_,?_,?_,λi hi hn=>?_⟩,?_⟩
 ·have:=K.size;grind[fw]
 ·unfold fw;simp[j o,h.free o]
 ·have:=K.size;have:=s.chg.size;have:=h.sz;have:=ah.size;unfold fw;omega
 ·exact K.os.trans (ah.os.trans (s.chg.os.trans k.os))
 ·exact K.tape.trans (ah.tape.trans (s.chg.tape.trans k.tape))
 ·exact K.output.trans (ah.output.trans (s.chg.output.trans k.output))
 ·have:=K.size;have:=s.chg.size;have:=ah.size;unfold fw;omega
 ·unfold fw;have aN:=s.chg.size;have a2:=ah.size;rw[K.block i xaa (λc=>hn (.inl xaa)),ah.block i xaa xaa,s.chg.block i xaa (by grind)];exact k.block i hi xaa
 rcases s.row with c|⟨r,c,av⟩<;>grind
theorem cH.qcn(h:Zp:=by
 have hb:v.ownBlock=some g:=by rw[e1];rfl
 rw[s.chg.block g aR (by simp_all)];exact ax):Zp:=h
open cH in
theorem sR{e size n:Nat}{v xs W}(o:W.ownsRow base e size v n xs)(s:StQ (λi=>i=P) U W R' W')(hP:v.ownBlock≠some P)(C:∀g,v.ownBlock=some g->U≠some g):W'.ownsRow base e size v n xs:=by
 exact qcm
theorem IR.stq{W R}(h:IR W R xs)(s:StQ (λi=>i=P) U W R' W')(hP:R≠P)(C:U≠some R):IR W' R xs:=by
 unfold IR;rw[s.chg.block R h.lt (by grind)];exact h
structure LJ(w W:World)(Mb:Nat)(b1:Option Addr)(n1 e1:Nat)(b3:Option Addr)(n3 e3:Nat)(ins outs:List Int)(vs:List Vl)(mv:List Int)(base:Nat)(R:Option Nat)(a2:Option Addr)(cap:Nat):Prop where
 g:SG W w.heap.size b1 n1 e1 b3 n3 e3 vs base R a2 cap
 b:RB W (w.heap.size+1) (.slice none 0 0) (.slice none 0 0) (.slice none 0 0)
 m:IR W Mb mv
 i:W.ownsRow base 3 1 (.slice b1 n1 e1) n1 (ins.map (Value.int .i64))
 o:W.ownsRow base 3 1 (.slice b3 n3 e3) n3 (outs.map (Value.int .i64))
 k:Kept 0 0 w W
 hb:w.heap.size+1+1<=base
 dM:base<=Mb
 rM:R≠some Mb
 a1:Apart (.slice b1 n1 e1) (.slice a2 vs.length cap)
 a3:Apart (.slice b3 n3 e3) (.slice a2 vs.length cap)
 a4:Apart (.slice b1 n1 e1) (.slice b3 n3 e3)
 m1:(Value.slice b1 n1 e1).ownBlock≠some Mb
 m3:(Value.slice b3 n3 e3).ownBlock≠some Mb
theorem LJ.keep{W e1}(h:LJ w W aI O n1 e1 Z n3 af ins outs vs aw base U Y cap)(k:Kept 0 0 W W'):LJ w W' aI O n1 e1 Z n3 af ins outs vs aw base U Y cap:=
 {h with g:=h.g.keep k,b:=h.b.keep k,m:=h.m.keep k yaa,i:=eR h.i k,o:=eR h.o k,k:=h.k.trans k}
theorem LJ.set{W e1}(h:LJ w W aI O n1 e1 Z n3 af ins outs vs aw base U Y cap)(j r):LJ w (W.setCell ⟨aI,j,none⟩ (hD r)) aI O n1 e1 Z n3 af ins outs vs (aw.set j r) base U Y cap:=by
 have hP:aI≠w.heap.size:=hN h.hb h.dM
 have aa:aI≠w.heap.size+1:=hN h.hb h.dM
 have c:∀R o,aI≠R->(W.setCell ⟨_,j,_⟩ (hD r)).cell? _=W.cell? ⟨R,o,_⟩:=λR o aS=>eM _ _ _ _ _ _ (.inl aS);obtain⟨bk,bf,aP,aY,bI,bB,bE⟩:=h.b
 exact {
  g:=⟨by simpa using h.g.lt,λo=>by simp[h.g.free o],by rw[c _ _ hP];exact h.g.c0,by rw[c _ _ hP];exact h.g.c1,by rw[c _ _ hP];exact h.g.c2,eJ h.g.own (hO h.g.row h.rM),h.g.row,h.g.ne,by simpa using h.g.sz⟩
  b:=⟨by simpa using bk,by rw[c _ _ aa];exact bf,by rw[c _ _ aa];exact aP,by rw[c _ _ aa];exact aY,by simp[bI],by simp[bB],by simp[bE]⟩
  m:=h.m.set j r
  i:=eJ h.i h.m1
  o:=eJ h.o h.m3
  k:=oy w W h.k _ j _ (hN h.hb h.dM)
  hb:=h.hb,dM:=h.dM,rM:=h.rM,a1:=h.a1,a3:=h.a3,a4:=h.a4,m1:=h.m1,m3:=h.m3}
theorem aP.qbe(h:Zp:=by
 exact {
  g:=aL
  b:=h.b.stq aJ xaa j
  m:=h.m.stq aJ (hN h.hb h.dM) h.rM
  i:=sR h.i aJ b0 cB
  o:=sR h.o aJ bO ch
  k:=Chg.kept h.k aJ.chg (by
   rintro i (c|c)
   ·omega
   ·have:=(eH h.g.own (h.g.row.trans c)).1;have:=h.hb;omega)
  hb:=h.hb
  dM:=h.dM
  rM:=f _ h.m.lt h.rM
  a1:=et
  a3:=a5
  a4:=h.a4
  m1:=h.m1
  m3:=h.m3}):Zp:=h
open aP in
theorem LJ.step{W e1}(h:LJ w W aI O n1 e1 Z n3 af ins outs vs aw base U Y cap)(k:Kept 0 0 W aO)
  (own:ag.ownsRow base 60 6 (.slice a2' vs2.length cap') vs2.length (fK vs2)) (Q:(Value.slice a2' vs2.length cap').ownBlock=R') (s:StQ (λ_=>False) U aO R' ag) (ah:Kept l h' ag a7) (ab:W.heap.size<=l) (C:∀g,R'=some g->g<l\/h'<=g):
  LJ w (fw a7 w.heap.size (.slice O n1 e1) (.slice a2' vs2.length cap') (.slice Z n3 af)) aI O n1 e1 Z n3 af ins outs vs2 aw base R' a2' cap':=by
 obtain⟨aL,aJ⟩:=h.g.put2 k own Q s ah ab C;have bi:=k.size;exact qbd
end
section
attribute[local go_sem] eG eE eD
variable{w W':World}{xs act:List Bool}{aI P ap n A af n3 base cap c1 c2 c3 R:Nat}{O Z Y:Option Addr}{ins outs aw:List Int}{vs:List Vl}{U:Option Nat}
theorem LJ.read{W n1 e1}(h:LJ w W aI O n1 e1 Z n3 af ins outs vs aw base U Y cap)(hn:0<vs.length):
  ∃g,Y=some ⟨g,0,none⟩/\U=some g/\g<W.heap.size/\∀j,j<vs.length->At W g (j*6) (vs.getD j hI):=by
 exact xgp
theorem bZ.qcg(h:Zp:=by
 have hP:∀o,_:=λo=>l.cell (p:=⟨w.heap.size,o,none⟩) ci xaa
 have f:RB W' (w.heap.size+1) (.slice none 0 0) (.slice none 0 0) (.slice none 0 0):=by
  obtain⟨bk,bf,aP,aY,bI,bB,bE⟩:=C.keep k;refine RB.keep ?_ l;exact xdp
 have aN:=k.size;have a2:=K.size;subst hn
 exact {
  g:=⟨yak ci l.size,λo=>by
    rw[l.frozen ci xaa]
    unfold fw
    simp[k.frozen (p:=⟨w.heap.size,o,none⟩) bv.sz xaa,a9 o],hO hP bb,hO hP aM,hO hP aQ,p2,rfl,λc=>by grind,by
    have:=l.size
    grind[fw]⟩
  b:=f
  m:=a6
  i:=aV
  o:=z
  k:=(Kept.new (cP.trans k) K yad).trans l
  hb:=xaa
  dM:=by
   grind[fw]
  rM:=λc=>by
   grind[fw]
  a1:=λR B J=>aL R J B
  a3:=λR B J=>aJ R J B
  a4:=bS
  m1:=λc=>by
   grind[fw]
  m3:=λc=>by
   grind[fw]}):Zp:=h
theorem bZ.qeu(h:Zp:=by
 have au:∀{e size n:Nat}{v:Value}{xs:List _},aO.ownsRow ((w.alloc g).alloc fj).heap.size e size v n _->W'.ownsRow _ e _ v n xs/\(∀R,v.ownBlock=some R->w.heap.size+1+1<=R/\R<aO.heap.size):=λh=>
  ⟨eR (fX h K (λb hb=>hM ((eH h hb).1))) l,λR aS=>hM (eH h aS)⟩
 exact qcf):Zp:=h
open bZ in
theorem LJ.start{aO n1 T d1 d2 d3 g u0 u1 u2}(hn:vs.length=T)
  (bv:G0 ((w.alloc g).alloc fj) w.heap.size u0 u1 u2) (a9:∀o,((w.alloc g).alloc fj).frozen? ⟨w.heap.size,o,none⟩=false) (C:RB ((w.alloc g).alloc fj) (w.heap.size+1) (.slice none 0 0) (.slice none 0 0) (.slice none 0 0)) (k:Kept 0 0 ((w.alloc g).alloc fj) aO)
  (ch:aO.ownsRow ((w.alloc g).alloc fj).heap.size 3 1 (.slice O n1 d1) n1 (ins.map (Value.int .i64))) (bO:aO.ownsRow ((w.alloc g).alloc fj).heap.size 60 6 (.slice Y T d2) T (fK vs)) (a5:aO.ownsRow ((w.alloc g).alloc fj).heap.size 3 1 (.slice Z n3 d3) n3 (outs.map (Value.int .i64)))
  (aL:Apart (.slice Y T d2) (.slice O n1 d1)) (aJ:Apart (.slice Y T d2) (.slice Z n3 d3)) (bS:Apart (.slice O n1 d1) (.slice Z n3 d3)):
  ∀W',IR W' (fw aO w.heap.size (.slice O n1 d1) (.slice Y T d2) (.slice Z n3 d3)).heap.size (List.replicate T 0)->Kept 0 0 (fw aO w.heap.size (.slice O n1 d1) (.slice Y T d2) (.slice Z n3 d3)) W'->
   LJ w W' (fw aO w.heap.size (.slice O n1 d1) (.slice Y T d2) (.slice Z n3 d3)).heap.size O n1 d1 Z n3 d3 ins outs vs (List.replicate T 0) ((w.alloc g).alloc fj).heap.size (Value.slice Y T d2).ownBlock Y d2:=by
 intro W' a6 l;have bi:((w.alloc g).alloc fj).heap.size=w.heap.size+1+1:=by simp
 exact qet
structure Oth(w:World)(Mb:Nat)(b1:Option Addr)(n1 e1:Nat)(b3:Option Addr)(n3 e3:Nat)(R:Option Nat)(B:Nat):Prop where
 p:w.heap.size+1+1<=B
 m:Mb≠B
 r:R≠some B
 i:(Value.slice b1 n1 e1).ownBlock≠some B
 o:(Value.slice b3 n3 e3).ownBlock≠some B
theorem LJ.oth{W n1 e1}(h:LJ w W aI O n1 e1 Z n3 af ins outs vs aw base U Y cap)(aS:W.heap.size<=R):Oth w aI O n1 e1 Z n3 af U R where
 p:=hM h.b.sz
 m:=hM h.m.lt
 r:=λc=>by have:=(eH h.g.own (h.g.row.trans c)).2;omega
 i:=λc=>hM ((eH h.i c).2)
 o:=λc=>hM ((eH h.o c).2)
theorem cR.qcy(h:Zp:=by
 exact {
  g:=⟨by simpa using h.g.lt,λo=>by simp[h.g.free o],by rw[c _ _ xaa];exact h.g.c0,by rw[c _ _ xaa];exact h.g.c1,by rw[c _ _ xaa];exact h.g.c2,eJ h.g.own (hO h.g.row t.r),h.g.row,h.g.ne,by simpa using h.g.sz⟩
  b:=⟨by simpa using bk,by rw[c _ _ xaa];exact bf,by rw[c _ _ xaa];exact aP,by rw[c _ _ xaa];exact aY,by simp[bI],by simp[bB],by simp[bE]⟩
  m:=by
   unfold IR
   rw[Below.heap_setCell W _ u _ t.m]
   exact h.m
  i:=eJ h.i t.i
  o:=eJ h.o t.o
  k:=oy w W h.k R j _ xaa
  hb:=h.hb,dM:=h.dM,rM:=h.rM,a1:=h.a1,a3:=h.a3,a4:=h.a4,m1:=h.m1,m3:=h.m3}):Zp:=h
open cR in
theorem LJ.other{W n1 e1}(h:LJ w W aI O n1 e1 Z n3 af ins outs vs aw base U Y cap)(t:Oth w aI O n1 e1 Z n3 af U R)(j u):LJ w (W.setCell ⟨R,j,none⟩ u) aI O n1 e1 Z n3 af ins outs vs aw base U Y cap:=by
 exact qcx
theorem ir3(w:World)(a b c):IR (w.alloc (.cells #[hD a,hD b,hD c] 3)) w.heap.size [a,b,c]:=by
 unfold IR;rw[heap_alloc_new];rfl
theorem GN(v aw q)(am:q<3):([ovs v aw q 0,ovs v aw q 1,ovs v aw q 2]:List Int).set q (aw.getD (fld v q).toNat 0)=[ovs v aw (q+1) 0,ovs v aw (q+1) 1,ovs v aw (q+1) 2]:=by
 grind[ovs]
theorem GO(vs x t s)(h:s≠x)(ar:s<vs.length):(jst vs x t 0).2.getD s 0=-1:=by
 unfold jst;grind
theorem LJ.fin{W n1 e1}(h:LJ w W aI O n1 e1 Z n3 af ins outs vs aw base U Y cap)(k:Kept 0 0 W W'):
  ((fw W' (w.heap.size+1) (.slice O n1 e1) (.slice Y vs.length cap) (.slice Z n3 af)).ownsRow w.heap.size 3 1 (.slice O n1 e1) n1 (ins.map (Value.int .i64))/\(fw W' (w.heap.size+1) (.slice O n1 e1) (.slice Y vs.length cap) (.slice Z n3 af)).ownsRow w.heap.size 60 6 (.slice Y vs.length cap) vs.length (fK vs)/\(fw W' (w.heap.size+1) (.slice O n1 e1) (.slice Y vs.length cap) (.slice Z n3 af)).ownsRow w.heap.size 3 1 (.slice Z n3 af) n3 (outs.map (Value.int .i64)))/\Kept 0 0 w (fw W' (w.heap.size+1) (.slice O n1 e1) (.slice Y vs.length cap) (.slice Z n3 af)):=by
 exact xcu
theorem LJ.call{w W az aI n1 e1 n3 af base cap O Z Y ins outs aw vs U}(h:LJ w W aI O n1 e1 Z n3 af ins outs vs aw base U Y cap)(k:Kept 0 0 W az)(u)(hn:vs.length<=1000000):
  Calls prog 38 #[eV O n1 e1 Y vs.length cap Z n3 af,u.agg] az λe ag=>∃aB cap',e=.returned (eV O n1 e1 (some ⟨aB,0,none⟩) (vs.length+1) cap' Z n3 af)/\
   (∃u,ag.cell? ⟨w.heap.size,0,none⟩=some u)/\(∃u,ag.cell? ⟨w.heap.size,1,none⟩=some u)/\(∃u,ag.cell? ⟨w.heap.size,2,none⟩=some u)/\(∀o,ag.frozen? ⟨w.heap.size,o,none⟩=false)/\
   V (LJ w (fw ag w.heap.size (.slice O n1 e1) (hC aB (vs.length+1) cap') (.slice Z n3 af)) aI O n1 e1 Z n3 af ins outs (vs++[u]) aw base (some aB) (some ⟨aB,0,none⟩) cap'):=by
 exact xbl
theorem Bi{i}(h:okV ins vs i=true):0<=(vs.getD i hI).op/\(vs.getD i hI).op<=13:=by
 grind[okV,rD]
theorem Bj(w a1 Y a3 n1 c1 T c2 n3 c3 ins vs outs)(f:GS w a1 n1 Y T a3 n3 ins vs outs)(ab:∀k,k<T->1<=(vs.getD k hI).len/\(vs.getD k hI).len<=1000):
  Calls prog 149 #[eV a1 n1 c1 Y T c2 a3 n3 c3] w λe I=>e=.returned (.bool (!kM vs))/\Kept 0 0 w I:=by
 have hn:=f.v.len;have bx:=ez 0 0 w (eW a1 n1 c1 Y T c2 a3 n3 c3);by_cases J:T<=2000
 ·have bn:V _:=BW _ _ _ _ _ c1 _ c2 _ c3 _ _ _ (f.keep bx) J ab;have HK:V _:=bx;have aP:((T:Int)<=2000):=xaa;by_cases ad:fd vs<=50000
  ·have e:kM vs=false:=by grind[kM]
   rw[e];have aY:=decide_eq_true ad;exact xed
  have e:kM vs=true:=by grind[kM]
  rw[e];have aY:=yay ad;exact xed
 have e:kM vs=true:=by grind[kM]
 rw[e];have aP:¬((T:Int)<=2000):=xaa;clear f ab hn e;go_enter func149,ntmps149;go_wp2;go_ret;exact⟨rfl,bx⟩
def ul(act:List Bool)(v:Vl)(k:Nat):Bool:=(List.range k).any λq=>act.getD (fld v q).toNat false
theorem DY(act v k):ul act v (k+1)=(ul act v k||act.getD (fld v k).toNat false):=by
 simp_all[ul,List.range_succ]
theorem sS{i j b}(h:j≠i):(xs.set i b).getD j false=xs.getD j false:=by
 grind
theorem zD(vs0 x):∀m i,x+m<i->(jA vs0 x m).getD i false=false
 |0,i,h=>by
  rw[jA,sS xaa,yai,List.getElem?_replicate]
  split<;>rfl
 |m+1,i,h=>by rw[jA,sS xaa,zD vs0 x m i xaa]
theorem DZ{i}(h:xs.getD i false=false):xs.set i false=xs:=by
 by_cases hi:i<xs.length
 ·exact xho
 exact List.set_eq_of_length_le xaa
structure AcS(w W:World)(P g2 n A:Nat)(b1 b3:Option Addr)(n1 c1 c2 n3 c3:Nat)(vs:List Vl)(act:List Bool):Prop where
 g:G0 W P (.slice b1 n1 c1) (.slice (some ⟨g2,0,none⟩) n c2) (.slice b3 n3 c3)
 v:VA W g2 n vs
 a:BR W A act
 k:Kept 0 0 w W
 n1:P≠A
 n2:g2≠A
 l:w.heap.size<=A
theorem AcS.keep{W n1}(h:AcS w W P ap n A O Z n1 c1 c2 n3 c3 vs act)(k:Kept 0 0 W W'):AcS w W' P ap n A O Z n1 c1 c2 n3 c3 vs act:=
 ⟨h.g.keep k,VA.keep h.v k yaa,BR.keep h.a k yaa,h.k.trans k,h.n1,h.n2,h.l⟩
theorem AcS.set{W n1}(h:AcS w W P ap n A O Z n1 c1 c2 n3 c3 vs act)(i b):AcS w (W.setCell ⟨A,i,none⟩ (.bool b)) P ap n A O Z n1 c1 c2 n3 c3 vs (act.set i b):=
 have k:=oC (S:=λq=>q=A) W A i (.bool b) rfl
 ⟨h.g.keepC k h.n1,h.v.keepC k h.n2,BR.set h.a i b,h.k.new (eP (lo:=A) (hi:=A+1) W ⟨A,i,none⟩ (.bool b) yac) h.l,h.n1,h.n2,h.l⟩
theorem zE(w O Z ap n1 c1 n c2 n3 c3 s x vs)(av:VA w ap n vs)(ab:n<=2000)(ar:s<n)(ak:x<n)(bD:∀j,j<n->0<=(vs.getD j hI).op/\(vs.getD j hI).op<=13)(bX:∀j,j<n->∀k,k<cnt (vs.getD j hI).op->0<=fld (vs.getD j hI) k/\fld (vs.getD j hI) k<j):
  Calls prog 163 #[eV O n1 c1 (some ⟨ap,0,none⟩) n c2 Z n3 c3,hD s,hD x] w λe I=>∃A,e=.returned (hC A n n)/\BR I A (jA vs x (s-x))/\w.heap.size<=A/\Kept 0 0 w I:=by
 have aC:=av.lt;have b6:V _:=av.len;have aq:=AH n (w.alloc (eW O n1 c1 (some ⟨ap,0,none⟩) n c2 Z n3 c3)) xaa;have aj:=ez 0 0 w (eW O n1 c1 (some ⟨ap,0,none⟩) n c2 Z n3 c3);have ah:=ez 0 0 (w.alloc (eW O n1 c1 (some ⟨ap,0,none⟩) n c2 Z n3 c3)) (.cells (madeCells #[.bool false] n) 4);have aU:=BR.made (w.alloc (eW O n1 c1 (some ⟨ap,0,none⟩) n c2 Z n3 c3)) n;rw[show(w.alloc _).heap.size=w.heap.size+1 by simp]at aU aq
 have T:V (AcS w _ _ _ n _ _ _ _ _ _ _ _ _ _):=
  ⟨(ft w _ _ _).keep ah,VA.keep av (aj.trans ah) yaa,aU,aj.trans ah,by omega,by omega,by omega⟩
 have bF:V (AcS w (((w.alloc (eW O n1 c1 (some ⟨ap,0,none⟩) n c2 Z n3 c3)).alloc (.cells (madeCells #[.bool false] n) 4)).setCell ⟨w.heap.size+1,x,none⟩ (.bool true)) w.heap.size ap n (w.heap.size+1) O Z n1 c1 c2 n3 c3 vs (jA vs x 0)):=by
  have:=T.o.set x true;unfold jA;rw[b6.o];exact this
 have aM:=T.o.g.q1;have c:=BR.cell T.o.a x (by grind);have g:=BR.free T.o.a x;generalize (List.replicate n _).getD x _=cW at c;have cr:(0:Int)<=x:=xaa;have cb:(x:Int)<n:=xaa;have J:IntKind.i64.wrap (x+1)=x+1:=by rw[IntKind.wrap_i64];omega
 have cC:V _:=bD;have er:V _:=bX;clear av aj ah aU T bD bX;generalize (w.alloc _).alloc _=ag at aq bF aM c g;go_enter func163,ntmps163;go_wp2_with fail;clear aq aM c g;generalize ag.setCell _ _=br at bF⊢;generalize z:w.heap.size+1=A at bF⊢;clear z;go_loopw [8] (λv W=>∃(i m:Nat),v=hD i/\i=x+1+m/\m<=s-x/\V (AcS w W w.heap.size ap n A O Z n1 c1 c2 n3 c3 vs (jA vs x m))) (λv _=>s+1-(intOf v).toNat)
 case atStart=>grind
 case round=>
  obtain⟨i,m,rfl,f,y,bw⟩:=hrel;clear bF;by_cases gv:i<=s
  ·have H:(0:Int)<=i:=xaa;have bf:(i:Int)<n:=xaa;have r:(i:Int)<=s:=xaa;have bi:i<n:=xaa;obtain⟨v,aD⟩:∃v,v=vs.getD i hI:=⟨_,rfl⟩
   have bL:V _:=aD;have ca:V _:=B4 v.op (by rw[aD];exact(cC.o i bi).1) (by rw[aD];exact(cC.o i bi).2);have ee:=er.o i bi;rw[<-aD]at ee;have e9:V _:=ee
   have ax:V (AcS w wr w.heap.size ap n A O Z n1 c1 c2 n3 c3 vs ((jA vs x m).set i (ul (jA vs x m) v 0))):=by
    have e:(jA _ x m).set i (ul (jA vs x m) v 0)=jA _ x m:=DZ (zD vs x m i xaa);show AcS _ _ _ _ _ _ _ _ _ _ _ _ _ _ _;rw[e];exact bw.o
   have h:V (i=x+1+m/\m<=s-x):=⟨f,y⟩
   have bK:V ((jA vs x m).length=n):=by show _=_;rw[oN,b6.o]
   have bg:V (jA vs x (m+1)=(jA vs x m).set i (ul (jA vs x m) v (cnt v.op))):=by
    show _=_;rw[jA,<-f,<-aD];rfl
   generalize jA _ x m=act at ax bK bg;have ho:IntKind.i64.wrap (i+1)=i+1:=by rw[IntKind.wrap_i64];omega
   clear bw f y aD ee;go_wp2_with fail;go_loopw [9] (λu W=>∃k:Nat,k<=cnt v.op/\u=hD k/\V (AcS w W w.heap.size ap n A O Z n1 c1 c2 n3 c3 vs (act.set i (ul act v k)))) (λu _=>cnt v.op-(intOf u).toNat)
   case atStart=>exact⟨0,yae,rfl,ax⟩
   case round=>
    obtain⟨k,N,rfl,aZ⟩:=hrel;clear ax;have aM:=aZ.o.g.q1;have be:=aZ.o.v.at_ i bi;rw[<-bL.o]at be;obtain⟨bC,aN,a2,bk,bq,co⟩:=be;by_cases aC:k<cnt v.op
    ·obtain⟨o,al,gx⟩:∃o:Nat,fld v k=o/\o<i:=by
      have:=e9.o k aC;exact⟨(fld v k).toNat,by omega,by omega⟩
     have ad:=f9 v.op;have c7:V (∀W,Calls _ _ _ W λe I=>e=.returned (.int _ o)/\Kept 0 0 W _):=λW=>by rw[<-al];exact lW W v k xaa
     have c:=BR.cell aZ.o.a o (by rw[List.length_set,bK.o];omega);rw[sS xaa]at c
     have B:V (ul act v (k+1)=(ul act v k||act.getD o false)):=by
      show _=_;rw[DY,al];rfl
     have G:V _:=bg.o;have b2:k<(cnt v.op:Int):=xaa;have ch:(0:Int)<=o:=xaa;have bO:(o:Int)<n:=xaa;have fs:IntKind.i64.wrap (k+1)=k+1:=by rw[IntKind.wrap_i64];omega
     have t:V (∀W,Kept 0 0 _ W->W.cell? _=some _):=λW l=>by
      rw[l.cell (p:=⟨A,o,none⟩) aZ.o.a.lt xaa];exact c
     clear al c;go_wp2_with (first|(go_at_call 48;refine yaj (ca.o _) ?_;rintro e cq ⟨rfl,rfl⟩)|fail);refine yaj (c7.o _) ?_;rintro e ci ⟨rfl,bU⟩;have c:=t.o _ bU;have p:V _:=aZ.o.keep bU;have F:=BR.cell p.o.a i (by rw[List.length_set,bK.o];omega);have g:=BR.free p.o.a i;generalize (act.set i _).getD i _=cW at F;clear aM bC aN a2 bk bq co bU t c7 aZ;cases hb:act.getD o false
     ·rw[hb]at c
      have HR:V (AcS w ci w.heap.size ap n A O Z n1 c1 c2 n3 c3 vs (act.set i (ul act v (k+1)))):=by
       show AcS _ _ _ _ _ _ _ _ _ _ _ _ _ _ _;rw[B.o,hb,Bool.or_false];exact p.o
      exact xgz
     rw[hb]at c
     have HR:V (AcS w (ci.setCell ⟨A,i,none⟩ (.bool true)) w.heap.size ap n A O Z n1 c1 c2 n3 c3 vs (act.set i (ul act v (k+1)))):=by
      have:=p.o.set i true;rw[List.set_set]at this;show AcS _ _ _ _ _ _ _ _ _ _ _ _ _ _ _;rw[B.o,hb,Bool.or_true];exact this
     exact xgz
    have b2:¬(k<(cnt v.op:Int)):=xaa;have ed:k=cnt v.op:=xaa
    have HR:V (AcS w wr w.heap.size ap n A O Z n1 c1 c2 n3 c3 vs (jA vs x (m+1))):=by
     show AcS _ _ _ _ _ _ _ _ _ _ _ _ _ _ _;rw[bg.o,<-ed];exact aZ.o
    clear aZ ed;go_wp2_with (first|(go_at_call 48;refine yaj (ca.o _) ?_;rintro e cq ⟨rfl,rfl⟩)|fail);clear aM bC aN a2 bk bq co;go_roundw;exact⟨i+1,m+1,by go_num,hM h.o,hM h.o,HR⟩;simp[intOf];omega
  have C:m=s-x:=xaa;have r:¬((i:Int)<=s):=xaa;have q:V _:=bw.o;clear bw f;go_wp2_with fail;go_ret;rw[<-C];exact⟨A,rfl,q.o.a,q.o.l,q.o.k⟩
end
section
variable{w aO W':World}{H ins outs aw:List Int}{n aI n1 A n3 af base cap cap' R:Nat}{st:List Vl×List Int}{act:List Bool}{O Z Y a2':Option Addr}{vs vs2:List Vl}{U R':Option Nat}
structure LK(w W:World)(b1:Option Addr)(n1 e1:Nat)(b3:Option Addr)(n3 e3:Nat)(ins outs:List Int)(vs:List Vl)(base:Nat)(R:Option Nat)(a2:Option Addr)(cap:Nat):Prop where
 g:SG W w.heap.size b1 n1 e1 b3 n3 e3 vs base R a2 cap
 b:RB W (w.heap.size+1) (.slice none 0 0) (.slice none 0 0) (.slice none 0 0)
 i:W.ownsRow base 3 1 (.slice b1 n1 e1) n1 (ins.map (Value.int .i64))
 o:W.ownsRow base 3 1 (.slice b3 n3 e3) n3 (outs.map (Value.int .i64))
 k:Kept 0 0 w W
 hb:w.heap.size+1+1<=base
 a1:Apart (.slice b1 n1 e1) (.slice a2 vs.length cap)
 a3:Apart (.slice b3 n3 e3) (.slice a2 vs.length cap)
 a4:Apart (.slice b1 n1 e1) (.slice b3 n3 e3)
theorem LK.keep{W e1}(h:LK w W O n1 e1 Z n3 af ins outs vs base U Y cap)(k:Kept 0 0 W W'):LK w W' O n1 e1 Z n3 af ins outs vs base U Y cap:=
 {h with g:=h.g.keep k,b:=h.b.keep k,i:=eR h.i k,o:=eR h.o k,k:=h.k.trans k}
structure Farb(w:World)(b1:Option Addr)(n1 e1:Nat)(b3:Option Addr)(n3 e3:Nat)(R:Option Nat)(B:Nat):Prop where
 p:w.heap.size+1+1<=B
 r:R≠some B
 i:(Value.slice b1 n1 e1).ownBlock≠some B
 o:(Value.slice b3 n3 e3).ownBlock≠some B
theorem LK.far{W e1}(h:LK w W O n1 e1 Z n3 af ins outs vs base U Y cap)(aS:W.heap.size<=R):Farb w O n1 e1 Z n3 af U R where
 p:=hM h.b.sz
 r:=λc=>by have:=(eH h.g.own (h.g.row.trans c)).2;omega
 i:=λc=>hM ((eH h.i c).2)
 o:=λc=>hM ((eH h.o c).2)
theorem cS.qcy(h:Zp:=by
 exact {
  g:=⟨by simpa using h.g.lt,λo=>by simp[h.g.free o],by rw[c _ _ xaa];exact h.g.c0,by rw[c _ _ xaa];exact h.g.c1,by rw[c _ _ xaa];exact h.g.c2,eJ h.g.own (hO h.g.row t.r),h.g.row,h.g.ne,by simpa using h.g.sz⟩
  b:=⟨by simpa using bk,by rw[c _ _ xaa];exact bf,by rw[c _ _ xaa];exact aP,by rw[c _ _ xaa];exact aY,by simp[bI],by simp[bB],by simp[bE]⟩
  i:=eJ h.i t.i
  o:=eJ h.o t.o
  k:=oy w W h.k R j _ xaa
  hb:=h.hb,a1:=h.a1,a3:=h.a3,a4:=h.a4}):Zp:=h
open cS in
theorem LK.other{W e1}(h:LK w W O n1 e1 Z n3 af ins outs vs base U Y cap)(t:Farb w O n1 e1 Z n3 af U R)(j u):LK w (W.setCell ⟨R,j,none⟩ u) O n1 e1 Z n3 af ins outs vs base U Y cap:=by
 exact qcx
theorem aQ.qbe(h:Zp:=by
 exact⟨{
  g:=aL
  b:=h.b.stq aJ xaa j
  i:=sR h.i aJ b0 cB
  o:=sR h.o aJ bO ch
  k:=Chg.kept h.k aJ.chg (by
   rintro i (c|c)
   ·omega
   ·have:=(eH h.g.own (h.g.row.trans c)).1;have:=h.hb;omega)
  hb:=h.hb
  a1:=et
  a3:=a5
  a4:=h.a4},aJ⟩):Zp:=h
open aQ in
theorem LK.step{W ag a7 e1 l h'}(h:LK w W O n1 e1 Z n3 af ins outs vs base U Y cap)(k:Kept 0 0 W aO)
  (own:ag.ownsRow base 60 6 (.slice a2' vs2.length cap') vs2.length (fK vs2)) (Q:(Value.slice a2' vs2.length cap').ownBlock=R') (s:StQ (λ_=>False) U aO R' ag) (ah:Kept l h' ag a7) (ab:W.heap.size<=l) (C:∀g,R'=some g->g<l\/h'<=g):
  LK w (fw a7 w.heap.size (.slice O n1 e1) (.slice a2' vs2.length cap') (.slice Z n3 af)) O n1 e1 Z n3 af ins outs vs2 base R' a2' cap'/\StQ (λi=>i=w.heap.size) U W R' (fw a7 w.heap.size (.slice O n1 e1) (.slice a2' vs2.length cap') (.slice Z n3 af)):=by
 obtain⟨aL,aJ⟩:=h.g.put2 k own Q s ah ab C;exact qbd
theorem LK.read{W e1}(h:LK w W O n1 e1 Z n3 af ins outs vs base U Y cap)(hn:0<vs.length):
  ∃g,Y=some ⟨g,0,none⟩/\U=some g/\g<W.heap.size/\∀j,j<vs.length->At W g (j*6) (vs.getD j hI):=by
 exact xgp
theorem LK.fin{W e1}(h:LK w W O n1 e1 Z n3 af ins outs vs base U Y cap)(k:Kept 0 0 W W'):
  ((fw W' (w.heap.size+1) (.slice O n1 e1) (.slice Y vs.length cap) (.slice Z n3 af)).ownsRow w.heap.size 3 1 (.slice O n1 e1) n1 (ins.map (Value.int .i64))/\(fw W' (w.heap.size+1) (.slice O n1 e1) (.slice Y vs.length cap) (.slice Z n3 af)).ownsRow w.heap.size 60 6 (.slice Y vs.length cap) vs.length (fK vs)/\(fw W' (w.heap.size+1) (.slice O n1 e1) (.slice Y vs.length cap) (.slice Z n3 af)).ownsRow w.heap.size 3 1 (.slice Z n3 af) n3 (outs.map (Value.int .i64)))/\Kept 0 0 w (fw W' (w.heap.size+1) (.slice O n1 e1) (.slice Y vs.length cap) (.slice Z n3 af)):=by
 exact xcu
theorem LK.call{w W az n1 e1 n3 af base cap O Z Y ins outs vs U}(h:LK w W O n1 e1 Z n3 af ins outs vs base U Y cap)(k:Kept 0 0 W az)(u)(hn:vs.length<=1000000):
  Calls prog 38 #[eV O n1 e1 Y vs.length cap Z n3 af,u.agg] az λe ag=>∃aB cap',e=.returned (eV O n1 e1 (some ⟨aB,0,none⟩) (vs.length+1) cap' Z n3 af)/\
   (∃u,ag.cell? ⟨w.heap.size,0,none⟩=some u)/\(∃u,ag.cell? ⟨w.heap.size,1,none⟩=some u)/\(∃u,ag.cell? ⟨w.heap.size,2,none⟩=some u)/\(∀o,ag.frozen? ⟨w.heap.size,o,none⟩=false)/\
   V (LK w (fw ag w.heap.size (.slice O n1 e1) (hC aB (vs.length+1) cap') (.slice Z n3 af)) O n1 e1 Z n3 af ins outs (vs++[u]) base (some aB) (some ⟨aB,0,none⟩) cap'/\StQ (λi=>i=w.heap.size) U W (some aB) (fw ag w.heap.size (.slice O n1 e1) (hC aB (vs.length+1) cap') (.slice Z n3 af))):=by
 exact xbl
structure LG(w W:World)(Mb A:Nat)(b1:Option Addr)(n1 e1:Nat)(b3:Option Addr)(n3 e3:Nat)(ins outs:List Int)(vs:List Vl)(mv:List Int)(act:List Bool)(base:Nat)(R:Option Nat)(a2:Option Addr)(cap:Nat):Prop where
 l:LK w W b1 n1 e1 b3 n3 e3 ins outs vs base R a2 cap
 m:IR W Mb mv
 a:BR W A act
 fm:Farb w b1 n1 e1 b3 n3 e3 R Mb
 fa:Farb w b1 n1 e1 b3 n3 e3 R A
 ne:Mb≠A
theorem LG.keep{W e1}(h:LG w W aI A O n1 e1 Z n3 af ins outs vs aw act base U Y cap)(k:Kept 0 0 W W'):LG w W' aI A O n1 e1 Z n3 af ins outs vs aw act base U Y cap:=
 ⟨h.l.keep k,h.m.keep k yaa,h.a.keep k yaa,h.fm,h.fa,h.ne⟩
theorem LG.set{W e1}(h:LG w W aI A O n1 e1 Z n3 af ins outs vs aw act base U Y cap)(j r):LG w (W.setCell ⟨aI,j,none⟩ (hD r)) aI A O n1 e1 Z n3 af ins outs vs (aw.set j r) act base U Y cap:=
 ⟨h.l.other h.fm j _,h.m.set j r,h.a.keepC (oC (S:=λq=>q=aI) W aI j (hD r) rfl) (λe=>h.ne e.symm),h.fm,h.fa,h.ne⟩
theorem LG.stq{W e1}(h:LG w W aI A O n1 e1 Z n3 af ins outs vs aw act base U Y cap)(l:LK w W' O n1 e1 Z n3 af ins outs vs2 base R' a2' cap')(q:StQ (λi=>i=w.heap.size) U W R' W'):LG w W' aI A O n1 e1 Z n3 af ins outs vs2 aw act base R' a2' cap':=by
 have f:∀{R},R<W.heap.size->Farb w O n1 e1 _ _ _ U R->Farb w _ _ _ Z n3 af R' R:=λaS t=>⟨t.p,by
  rcases q.row with e|⟨r,e,av⟩
  ·rw[e];exact t.r
  grind,t.i,t.o⟩
 refine⟨l,h.m.stq q (hM h.fm.p) h.fm.r,h.a.keepC q.chg ?_,f h.m.lt h.fm,f h.a.lt h.fa,h.ne⟩;rintro (c|c)
 ·have:=h.fa.p;omega
 exact h.fa.r c
def gdn(vs:List Vl)(act:List Bool)(s:Nat):Nat->List Vl×List Int
 |0=>xF vs s
 |j+1=>giM vs act (s-j) (gdn vs act s j)
theorem um(vs act s x):∀k,k<=s-x->zo vs act x (xF vs s) ((List.range k).map (λi=>(s-x)-1-i))=gdn vs act s k
 |0,_=>rfl
 |k+1,h=>by
  rw[List.range_succ,List.map_append,List.map_cons,List.map_nil,Ba,um _ _ s x k xaa,gdn]
  grind
def xK(n:Nat)(act:List Bool)(sl:List Int):Prop:=∀q,q<n->sl.getD q 0=-1\/(0<=sl.getD q 0/\act.getD q false=true)
theorem No{p}[Decidable p]{a b:List Vl×Int}(F:0<=a.2)(hb:0<=b.2):0<=(if p then a else b).2:=by grind
theorem Np(i v l k d aH)(G:0<=d):0<=(nH i v l k d aH).2:=by
 unfold nH;repeat' (apply No)
 all_goals omega
theorem zG{o p}(h:xK n act H)(ab:H.length=n)(aK:0<=p)(F:act.getD o false=true):xK n act (H.set o p):=λq am=>by
 rw[yai,List.getElem?_set]
 by_cases e:o=q
 ·simp_all
 ·rw[hF e,<-yai]
  exact h q am
theorem J3{i k}(h:xK n act st.2)(ab:st.2.length=n)(G:0<=st.2.getD i 0):xK n act (gkM vs act i k st).2:=by
 grind[gkM,mM,zG,Np]
theorem D0{o i p}(h:o≠i):(mM vs o p st).2.getD i 0=st.2.getD i 0:=by
 unfold mM;grind
theorem J4{i k}(h:(fld (vs.getD i hI) k).toNat≠i):(gkM vs act i k st).2.getD i 0=st.2.getD i 0:=by
 grind[gkM,D0]
theorem uo{vs act i st}:∀k,(∀q,q<k->(fld (vs.getD i hI) q).toNat≠i)->(jY vs act i st k).2.getD i 0=st.2.getD i 0
 |0,_=>rfl
 |k+1,h=>by rw[jY,J4 (h k yaf),uo k (λq am=>h q xaa)]
theorem uq{vs act n i st}(h:xK n act st.2)(ab:st.2.length=n)(G:0<=st.2.getD i 0):∀k,(∀q,q<k->(fld (vs.getD i hI) q).toNat≠i)->xK n act (jY vs act i st k).2
 |0,_=>h
 |k+1,a9=>J3 (uq h ab G k (λq am=>a9 q xaa)) (by rw[qT];exact ab) (by grind[uo])
theorem J5{i}(h:xK n act st.2)(ab:st.2.length=n)(hi:i<n)(a9:∀q,q<cnt (vs.getD i hI).op->(fld (vs.getD i hI) q).toNat≠i):xK n act (giM vs act i st).2:=by
 unfold giM;split
 ·exact h
 rename_i ad;exact uq h ab (by rcases h i hi with c|c<;>grind) _ a9
structure GdI(vs:List Vl)(act:List Bool)(n:Nat)(L:Nat)(C:Int)(st:List Vl×List Int):Prop where
 i:xK n act st.2
 l:st.2.length=n
 p:Pre vs st.1
 z:SzU L C st.1
theorem Cg{vs act n s}(hn:vs.length=n)(ar:s<n)(bi:SzU 2000 50000 vs)(bJ:LnB vs)(F:act.getD s false=true)(a9:∀i,i<n->∀q,q<cnt (vs.getD i hI).op->(fld (vs.getD i hI) q).toNat≠i):∀j,j<=s->GdI vs act n (2001+12*j) (51000+12000*(j:Int)) (gdn vs act s j)
 |0,_=>by
  refine⟨?_,by simp[gdn,xF,hn],⟨_,rfl⟩,?_⟩
  ·refine zG (λq am=>.inl ?_) (by grind) xaa F
   simp_all
  ·exact(SzU.app (L':=1) (C':=1000) bi ⟨by simp,by simp[fd],by simp[fd]⟩).mono xaa xaa
 |j+1,h=>by
  have aa:=Cg hn ar bi bJ F a9 j xaa
  exact⟨J5 aa.i aa.l xaa (a9 _ xaa),by rw[gdn,JT];exact aa.l,JS aa.p,(Nc bJ aa.z).mono xaa xaa⟩
theorem m7{s q}(h:q<=s):(H.take (s+1)).getD q 0=H.getD q 0:=by
 grind
theorem rQ(H:List Int)(s o p):(H.take (s+1)).set o p=(H.set o p).take (s+1):=List.take_set.symm
theorem D4(vs s)(ar:s<vs.length):(List.replicate (s+1) (-1:Int)).set s (vs.length:Nat)=(xF vs s).2.take (s+1):=by
 unfold xF;simp only;rw[<-rQ,List.take_replicate,show min (s+1) vs.length=s+1 by omega]
theorem cA.qcg(h:Zp:=by
 have f:RB (fw aO w.heap.size (.slice O n1 d1) (.slice Y T d2) (.slice Z n3 d3)) (w.heap.size+1) (.slice none 0 0) (.slice none 0 0) (.slice none 0 0):=by
  obtain⟨bk,bf,aP,aY,bI,bB,bE⟩:=C.keep k;exact xdp
 have a2:=K.size;subst hn
 exact {
  g:=⟨ci,λo=>by
    unfold fw
    simp[k.frozen (p:=⟨w.heap.size,o,none⟩) bv.sz xaa,a9 o],bb,aM,aQ,p2,rfl,λc=>by grind,yao b7 a2⟩
  b:=f
  i:=aV
  o:=z
  k:=Kept.new (cP.trans k) K yad
  hb:=ee
  a1:=λR B J=>aL R J B
  a3:=λR B J=>aJ R J B
  a4:=bS}):Zp:=h
theorem cA.qeu(h:Zp:=by
 have au:∀{e size n:Nat}{v:Value}{xs:List _},aO.ownsRow base e _ v n xs->(fw aO _ _ _ _).ownsRow _ e size v n _/\(∀R,v.ownBlock=some R->w.heap.size+1+1<=R/\R<aO.heap.size):=λh=>
  ⟨fX h K (λb hb=>hM ((eH h hb).1)),λR aS=>hM (eH h aS)⟩
 exact qcf):Zp:=h
open cA in
theorem LK.start{T d1 d2 d3 g u0 u1 u2}(hn:vs.length=T)
  (bv:G0 ((w.alloc g).alloc fj) w.heap.size u0 u1 u2) (a9:∀o,((w.alloc g).alloc fj).frozen? ⟨w.heap.size,o,none⟩=false) (C:RB ((w.alloc g).alloc fj) (w.heap.size+1) (.slice none 0 0) (.slice none 0 0) (.slice none 0 0)) (k:Kept 0 0 ((w.alloc g).alloc fj) aO) (ee:w.heap.size+1+1<=base) (b7:base<=aO.heap.size)
  (ch:aO.ownsRow base 3 1 (.slice O n1 d1) n1 (ins.map (Value.int .i64))) (bO:aO.ownsRow base 60 6 (.slice Y T d2) T (fK vs)) (a5:aO.ownsRow base 3 1 (.slice Z n3 d3) n3 (outs.map (Value.int .i64)))
  (aL:Apart (.slice Y T d2) (.slice O n1 d1)) (aJ:Apart (.slice Y T d2) (.slice Z n3 d3)) (bS:Apart (.slice O n1 d1) (.slice Z n3 d3)):
  LK w (fw aO w.heap.size (.slice O n1 d1) (.slice Y T d2) (.slice Z n3 d3)) O n1 d1 Z n3 d3 ins outs vs base (Value.slice Y T d2).ownBlock Y d2:=by
 exact qet
end
section
attribute[local go_sem] eG eE eD
noncomputable abbrev P8 (n:Nat):Code:=(Tryz.f159.body.bind (pQ n)).getD .skip
theorem Nq{w W aI A n1 e1 n3 af base cap bp J o O Z ins outs aw act us U p q g K b a c d f h i j k n r s t u v x y z R C D E F G H ce ap L M aH b4 P Q S bl bx Vaa X cz cw bq ea ai eb ec ed ee ef eg ei b0 ej aL aQ bU ek el en cN eo bz ep er cn co cq ct aE cW cI cA b6 cK cM a6 cO cS cU cV c6 br bu bn c8 di ds cF d4 d5 bV a1 Y a3 a4 bR cJ cg aN ck fv aJ cX fz b9 fG fL fM bL fP fT b7 f0 c7 f4 f5 f6 f7 bs bt cR dv ga aR bk ca cQ et ey eA ax av cj bG cl gb bN bd cb bK gc cD cx bD eB eC eS eT e0 e3 e5 e6 e7 e8 e9 fa fc ff fi fl fm fo fq fs fu bH}(aa:V (LG w W aI A O n1 e1 Z n3 af ins outs us aw act base U (some ⟨bp,0,none⟩) cap))(an:us.length<=900000)(al:o<us.length)(aZ:o<J)(aq:aw.length=J)(cH:(us.getD o hI).len=g)(am:aw.getD o 0=q)
  (N:∀(W':World) (aB cap':Nat) (l m B T ab ad ah ak ar au az aA aC aD:Value),V (LG w W' aI A O n1 e1 Z n3 af ins outs (us++[eL 2 g q p 0]) aw act base (some aB) (some ⟨aB,0,none⟩) cap')->K ⟨#[b,a,c,hB w.heap.size,d,f,h,i,j,k,hC aI J J,n,r,s,hD o,t,hD p,u,v,x,y,z,R,C,D,E,F,G,H,ce,ap,L,M,aH,b4,P,Q,S,bl,bx,Vaa,X,cz,cw,bq,ea,ai,eb,ec,ed,ee,ef,eg,ei,b0,ej,aL,aQ,bU,ek,el,en,cN,eo,bz,ep,er,cn,co,cq,ct,aE,cW,cI,cA,b6,cK,cM,a6,cO,cS,cU,cV,c6,br,bu,bn,c8,di,ds,cF,d4,d5,bV,a1,Y,a3,a4,bR,cJ,cg,aN,ck,fv,aJ,cX,fz,b9,fG,fL,fM,bL,fP,fT,b7,f0,c7,f4,f5,f6,f7,bs,bt,cR,dv,ga,aR,bk,ca,cQ,et,ey,eA,l,m,B,T,ab,ad,ah,ak,ar,au,az,aA,aC,aD,eB,eC,eS,eT,e0,e3,e5,e6,e7,e8,e9,fa,fc,ff,fi,fl,fm,fo,fq,fs,fu,bH],[]⟩ W'):
  Code.wp prog (P8 27) (Exit.then K λ_ _ _=>False) ⟨#[b,a,c,hB w.heap.size,d,f,h,i,j,k,hC aI J J,n,r,s,hD o,t,hD p,u,v,x,y,z,R,C,D,E,F,G,H,ce,ap,L,M,aH,b4,P,Q,S,bl,bx,Vaa,X,cz,cw,bq,ea,ai,eb,ec,ed,ee,ef,eg,ei,b0,ej,aL,aQ,bU,ek,el,en,cN,eo,bz,ep,er,cn,co,cq,ct,aE,cW,cI,cA,b6,cK,cM,a6,cO,cS,cU,cV,c6,br,bu,bn,c8,di,ds,cF,d4,d5,bV,a1,Y,a3,a4,bR,cJ,cg,aN,ck,fv,aJ,cX,fz,b9,fG,fL,fM,bL,fP,fT,b7,f0,c7,f4,f5,f6,f7,bs,bt,cR,dv,ga,aR,bk,ca,cQ,et,ey,eA,ax,av,cj,bG,cl,gb,bN,bd,cb,bK,gc,cD,cx,bD,eB,eC,eS,eT,e0,e3,e5,e6,e7,e8,e9,fa,fc,ff,fi,fl,fm,fo,fq,fs,fu,bH],[]⟩ W:=by
 have HK:V _:=N;clear N;have aT:=aa.o.l.g.c0;have ao:=aa.o.l.g.c1;have aG:=aa.o.l.g.c2;obtain⟨cf,d0,_,_,aU⟩:=aa.o.l.read xaa;cases d0;have I:=(aU o al).c1;rw[cH]at I;have cd:=IR.cell aa.o.m o xaa;rw[am]at cd;have eu:0<=(o:Int):=xaa;have ch:(o:Int)<us.length:=xaa;have bO:(o:Int)<J:=xaa;clear cH am aU aq al aZ;conv=>arg 2;whnf
 go_region_with (first
  |(go_at_call 38;refine yaj (LK.call aa.o.l ((eF W).trans aj) (eL 2 g q p 0) xaa) ?_;rintro e ag ⟨aB,cap',rfl,⟨u0,bm⟩,⟨u1,ay⟩,⟨u2,aW⟩,ae,a0⟩;have bv:=ae 0;have bA:=ae 1;have bM:=ae 2;have bJ:V _:=aa.o.stq a0.o.1 a0.o.2;clear ae a0)
  |(go_at_call 40;refine yaj (gO _ _ _ _ _ _) ?_;rintro e aO ⟨rfl,aj⟩;have a8:=(LG.keep aa.o ((eF W).trans aj)).l.g.c0;have aV:=(LG.keep aa.o ((eF W).trans aj)).l.g.c1;have p2:=(LG.keep aa.o ((eF W).trans aj)).l.g.c2))
 all_goals exact HK.o _ _ _ _ _ _ _ _ _ _ _ _ _ _ _ _ _ bJ
end
section
def vO(w w':World)(n1 n3:Nat)(ins outs:List Int)(M:List Vl×Int)(e:Ending):Prop:=
 ∃b1 d1 b3 d3 a2 cap,e=.returned (.tuple #[eV b1 n1 d1 a2 M.1.length cap b3 n3 d3,.int .i64 M.2])/\w'.ownsRow w.heap.size 3 1 (.slice b1 n1 d1) n1 (ins.map (Value.int .i64))/\w'.ownsRow w.heap.size 60 6 (.slice a2 M.1.length cap) M.1.length (fK M.1)/\w'.ownsRow w.heap.size 3 1 (.slice b3 n3 d3) n3 (outs.map (Value.int .i64))/\Apart (.slice b1 n1 d1) (.slice b3 n3 d3)
