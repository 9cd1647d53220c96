import Derived.Test.YtamokkcfibdghaaGreatP16
namespace Go.Proofs.Z
variable {Zp:Prop}
open Tryz Go.RowKit Flt
set_option maxRecDepth 1000000
set_option maxHeartbeats 0
section
variable {v:Vl}{w aB af aX W':World}{q P ar Y ae Z base ak cap cap' l h':Nat}{xs aP ins outs:List Int}{N ab a2 a2':Option Addr}{R' aa:Option Nat}{vs vs2:List Vl}
theorem jo{p}[Decidable p]{a b:List Vl×Int}(G:-1<=a.2)(hb:-1<=b.2):-1<=(if p then a else b).2:=by
 grind
theorem LF(n d p q bQ):-1<=(chM n d p q bQ).2:=by
 unfold chM;grind
theorem MI(i v ao S aH bQ)(g:-1<=ao)(K:-1<=S):-1<=(mvM i v ao S aH bQ).2:=by
 have z:∀{l:List Vl},-1<=(l,(-1:Int)).2:=by simp
 have n:∀{l:List Vl}{m:Nat},-1<=(l,(m:Int)).2:=xaa;unfold mvM yJ yK yL yM;exact jo z (jo (jo K (jo g n)) (jo (jo g (jo n n)) (jo (jo (jo z n) (jo n n)) (jo (jo (jo z n) (jo n n)) (jo (LF _ _ _ _ _) (jo (jo z (LF _ _ _ _ _)) (jo n n)))))))
theorem Fo{j}(h:∀i,-1<=aP.getD i 0):-1<=ovs v aP q j:=by
 unfold ovs;grind
theorem xh(vs x t):∀k i,-1<=(jst vs x t k).2.getD i 0
 |0,i=>by
  unfold jst
  grind
 |k+1,i=>by
  have aj:=xh vs x t k
  unfold jst
  simp only
  rw[yah,List.getElem?_set]
  split
  ·split<;>simp_all [jmv,MI,Fo]<;>grind
  simp_all
theorem BQ(vs x t):∀k i,x+k<i->i<vs.length->(jst vs x t k).2.getD i 0=-1
 |0,i,h,hi=>by
  unfold jst
  grind
 |k+1,i,h,hi=>by
  unfold jst
  simp only
  rw[yah,List.getElem?_set,hJ xaa,<-yah]
  exact BQ _ x t k i xaa hi
theorem Fp{i y}(h:xs.getD i 0=y)(hi:i<xs.length):xs.set i y=xs:=by
 exact xja
theorem Fq(vs x t k)(hi:x+1+k<vs.length)(h:∀j,j<cnt (vs.getD (x+1+k) hM).op->(jst vs x t k).2.getD (fld (vs.getD (x+1+k) hM) j).toNat 0=-1):jst vs x t (k+1)=jst vs x t k:=by
 have e:∀j,ovs _ _ _ j=-1:=λj=>by
  unfold ovs;split
  ·exact h j (by assumption)
  ·rfl
 have a9:jmv vs (x+1+k) (jst vs x t k)=([],-1):=by grind [jmv,mvM]
 conv=>lhs;unfold jst
 rw[a9];simp only[List.append_nil];grind [Fp,BQ]
def sh (v:Vl)(mv:List Int)(q:Nat):Bool:=(List.range q).any λj=>decide (0<=mv.getD (fld v j).toNat 0)
theorem C5(v aP q):sh v aP (q+1)=(sh v aP q||decide (0<=aP.getD (fld v q).toNat 0)):=by
 simp_all [sh,List.range_succ]
theorem AK(h:sh v aP q=false)(aW:∀i,-1<=aP.getD i 0):∀j,j<q->aP.getD (fld v j).toNat 0=-1:=λj hj=>by
 unfold sh at h
 grind
theorem C6(h:sh v aP (cnt v.op)=true):¬(ovs v aP (cnt v.op) 0=-1/\ovs v aP (cnt v.op) 1=-1/\ovs v aP (cnt v.op) 2=-1):=by
 rintro⟨aj,B,R⟩;unfold sh at h;rw[List.any_eq_true]at h;obtain⟨j,hj,aV⟩:=h;have e:=List.mem_range.1 hj;grind [ovs,fld]
theorem SG.put2{m1 m3}(h:SG w P N m1 ae ab m3 ak vs base aa a2 cap)(k:Kept 0 0 w aB)
  (own:af.ownsRow base 53 6 (.slice a2' vs2.length cap') vs2.length (fQ vs2)) (aC:(Value.slice a2' vs2.length cap').ownBlock=R') (s:StQ (λ_=>False) aa aB R' af) (ao:Kept l h' af aX) (ah:w.heap.size<=l) (C:∀g,R'=some g->g<l\/h'<=g):
  SG (fB aX P (.slice N m1 ae) (.slice a2' vs2.length cap') (.slice ab m3 ak)) P N m1 ae ab m3 ak vs2 base R' a2' cap'/\StQ (λi=>i=P) aa w R' (fB aX P (.slice N m1 ae) (.slice a2' vs2.length cap') (.slice ab m3 ak)):=by
 have aF:=h.lt;have cc:=k.size
 have bT:R'≠some P:=by
  rcases s.row with e|⟨r,e,ay⟩
  ·rw[e];exact h.ne
  grind
 have hb:=s.chg.block P xaa (by rintro (c|c);exact c;exact h.ne c);have aN:P<af.heap.size:=by grind
 have z:=(ao.block P aN xaa).trans hb;have e:∀o,_:=λo=>(World.cell?_of_block z).trans (k.cell (p:=⟨P,o,none⟩) h.lt xaa);have x:∀o,_:=λo=>(World.frozen?_of_block z).trans (k.frozen (p:=⟨P,o,none⟩) h.lt xaa);obtain⟨bh,aU,aY⟩:=fj _ P _ _ _ ((e 0).trans h.c0) ((e 1).trans h.c1) ((e 2).trans h.c2) (.slice N m1 ae) (.slice a2' vs2.length cap') (.slice ab m3 ak);have K:=ft aX P (.slice N m1 ae) (.slice a2' vs2.length cap') (.slice ab m3 ak);have f:(Value.slice a2' vs2.length cap').ownBlock≠some P:=by grind
 refine⟨⟨?_,λo=>?_,bh,aU,aY,eJ (eJ (eJ (gM own ao (λg aW=>C g (aC ▸ aW))) f) f) f,aC,bT,?_⟩,⟨?_,?_,?_,?_,λi hi hn=>?_⟩,?_⟩
 ·have:=K.size;grind [fB]
 ·unfold fB;simp[x o,h.free o]
 ·have:=K.size;have:=s.chg.size;have:=h.sz;have:=ao.size;unfold fB;omega
 ·exact K.os.trans (ao.os.trans (s.chg.os.trans k.os))
 ·exact K.tape.trans (ao.tape.trans (s.chg.tape.trans k.tape))
 ·exact K.output.trans (ao.output.trans (s.chg.output.trans k.output))
 ·have:=K.size;have:=s.chg.size;have:=ao.size;unfold fB;omega
 ·unfold fB;have aZ:=s.chg.size;have be:=ao.size;rw[K.block i xaa (λc=>hn (.inl xaa)),ao.block i xaa xaa,s.chg.block i xaa (by grind)];exact k.block i hi xaa
 rcases s.row with c|⟨r,c,ay⟩<;>grind
theorem cJ.qcr(h:Zp:=by
 have hb:v.ownBlock=some g:=hX ae
 rw[s.chg.block g aW (by simp_all)];exact aA):Zp:=h
open cJ in
theorem sE{e size n:Nat}{v xs W}(o:W.ownsRow base e size v n xs)(s:StQ (λi=>i=P) aa W R' W')(hP:v.ownBlock≠some P)(C:∀g,v.ownBlock=some g->aa≠some g):W'.ownsRow base e size v n xs:=by
 exact qcq
theorem IR.stq{W I}(h:IR W I xs)(s:StQ (λi=>i=P) aa W R' W')(hP:I≠P)(C:aa≠some I):IR W' I xs:=by
 unfold IR;rw[s.chg.block I h.lt (by grind)];exact h
structure LJ (w W:World)(Mb:Nat)(b1:Option Addr)(n1 e1:Nat)(b3:Option Addr)(n3 e3:Nat)(ins outs:List Int)(vs:List Vl)(mv:List Int)(base:Nat)(R:Option Nat)(a2:Option Addr)(cap:Nat):Prop where
 g:SG W w.heap.size b1 n1 e1 b3 n3 e3 vs base R a2 cap
 b:RB W (w.heap.size+1) (.slice none 0 0) (.slice none 0 0) (.slice none 0 0)
 m:IR W Mb mv
 i:W.ownsRow base 3 1 (.slice b1 n1 e1) n1 (ins.map (Value.int .i64))
 o:W.ownsRow base 3 1 (.slice b3 n3 e3) n3 (outs.map (Value.int .i64))
 k:Kept 0 0 w W
 hb:w.heap.size+1+1<=base
 dM:base<=Mb
 rM:R≠some Mb
 a1:Apart (.slice b1 n1 e1) (.slice a2 vs.length cap)
 a3:Apart (.slice b3 n3 e3) (.slice a2 vs.length cap)
 a4:Apart (.slice b1 n1 e1) (.slice b3 n3 e3)
 m1:(Value.slice b1 n1 e1).ownBlock≠some Mb
 m3:(Value.slice b3 n3 e3).ownBlock≠some Mb
theorem LJ.keep{W}(h:LJ w W ar N Y ae ab Z ak ins outs vs aP base aa a2 cap)(k:Kept 0 0 W W'):LJ w W' ar N Y ae ab Z ak ins outs vs aP base aa a2 cap:=
 {h with g:=h.g.keep k,b:=h.b.keep k,m:=h.m.keep k yaa,i:=e8 h.i k,o:=e8 h.o k,k:=h.k.trans k}
theorem LJ.set{W}(h:LJ w W ar N Y ae ab Z ak ins outs vs aP base aa a2 cap)(j r):LJ w (W.setCell ⟨ar,j,none⟩ (hI r)) ar N Y ae ab Z ak ins outs vs (aP.set j r) base aa a2 cap:=by
 have hP:ar≠w.heap.size:=hS h.hb h.dM
 have G:ar≠w.heap.size+1:=hS h.hb h.dM
 have c:∀I o,ar≠I->(W.setCell ⟨_,j,_⟩ (hI r)).cell? _=W.cell? ⟨I,o,_⟩:=λI o aS=>eO _ _ _ _ _ _ (.inl aS);obtain⟨bz,bj,aQ,a6,bL,bI,bJ⟩:=h.b
 exact {
  g:=⟨by simpa using h.g.lt,λo=>by simp[h.g.free o],by rw[c _ _ hP];exact h.g.c0,by rw[c _ _ hP];exact h.g.c1,by rw[c _ _ hP];exact h.g.c2,eJ h.g.own (hU h.g.row h.rM),h.g.row,h.g.ne,by simpa using h.g.sz⟩
  b:=⟨by simpa using bz,by rw[c _ _ G];exact bj,by rw[c _ _ G];exact aQ,by rw[c _ _ G];exact a6,by simp[bL],by simp[bI],by simp[bJ]⟩
  m:=h.m.set j r
  i:=eJ h.i h.m1
  o:=eJ h.o h.m3
  k:=nV w W h.k _ j _ (hS h.hb h.dM)
  hb:=h.hb,dM:=h.dM,rM:=h.rM,a1:=h.a1,a3:=h.a3,a4:=h.a4,m1:=h.m1,m3:=h.m3}
theorem aU.qbi(h:Zp:=by
 exact {
  g:=aO
  b:=h.b.stq aR xaa j
  m:=h.m.stq aR (hS h.hb h.dM) h.rM
  i:=sE h.i aR ch cq
  o:=sE h.o aR bS b1
  k:=Chg.kept h.k aR.chg (by
   rintro i (c|c)
   ·omega
   ·have:=(eI h.g.own (h.g.row.trans c)).1;have:=h.hb;omega)
  hb:=h.hb
  dM:=h.dM
  rM:=f _ h.m.lt h.rM
  a1:=ev
  a3:=b5
  a4:=h.a4
  m1:=h.m1
  m3:=h.m3}):Zp:=h
open aU in
theorem LJ.step{W}(h:LJ w W ar N Y ae ab Z ak ins outs vs aP base aa a2 cap)(k:Kept 0 0 W aB)
  (own:af.ownsRow base 53 6 (.slice a2' vs2.length cap') vs2.length (fQ vs2)) (aC:(Value.slice a2' vs2.length cap').ownBlock=R') (s:StQ (λ_=>False) aa aB R' af) (ao:Kept l h' af aX) (ah:W.heap.size<=l) (C:∀g,R'=some g->g<l\/h'<=g):
  LJ w (fB aX w.heap.size (.slice N Y ae) (.slice a2' vs2.length cap') (.slice ab Z ak)) ar N Y ae ab Z ak ins outs vs2 aP base R' a2' cap':=by
 obtain⟨aO,aR⟩:=h.g.put2 k own aC s ao ah C;have bp:=k.size;exact qbh
end
section
attribute [local go_sem] eG eE eD
variable {w W':World}{xs act:List Bool}{ar P ag ae n A ak Z base cap c1 c2 c3 I:Nat}{N ab a2:Option Addr}{ins outs aP:List Int}{vs:List Vl}{aa:Option Nat}
theorem LJ.read{W Y}(h:LJ w W ar N Y ae ab Z ak ins outs vs aP base aa a2 cap)(hn:0<vs.length):
  ∃g,a2=some ⟨g,0,none⟩/\aa=some g/\g<W.heap.size/\∀j,j<vs.length->At W g (j*6) (vs.getD j hM):=by
 exact xia
theorem cD.qcm(h:Zp:=by
 have hP:∀o,_:=λo=>Q.cell (p:=⟨w.heap.size,o,none⟩) cc xaa
 have f:RB W' (w.heap.size+1) (.slice none 0 0) (.slice none 0 0) (.slice none 0 0):=by
  obtain⟨bz,bj,aQ,a6,bL,bI,bJ⟩:=C.keep k;refine RB.keep ?_ Q;exact xev
 have aZ:=k.size;have be:=K.size;subst hn
 exact {
  g:=⟨yaj cc Q.size,λo=>by
    rw[Q.frozen cc xaa]
    unfold fB
    simp[k.frozen (p:=⟨w.heap.size,o,none⟩) bq.sz xaa,bb o],hU hP bh,hU hP aU,hU hP aY,p2,rfl,λc=>by grind,by
    have:=Q.size
    grind [fB]⟩
  b:=f
  m:=bB
  i:=a8
  o:=z
  k:=(Kept.new (cI.trans k) K yad).trans Q
  hb:=xaa
  dM:=by
   grind [fB]
  rM:=λc=>by
   grind [fB]
  a1:=λI B R=>aO I R B
  a3:=λI B R=>aR I R B
  a4:=b2
  m1:=λc=>by
   grind [fB]
  m3:=λc=>by
   grind [fB]}):Zp:=h
theorem cD.qfa(h:Zp:=by
 have aw:∀{e size n:Nat}{v:Value}{xs:List _},aB.ownsRow ((w.alloc g).alloc fp).heap.size e size v n _->W'.ownsRow _ e _ v n xs/\(∀I,v.ownBlock=some I->w.heap.size+1+1<=I/\I<aB.heap.size):=λh=>
  ⟨e8 (gM h K (λb hb=>hR ((eI h hb).1))) Q,λI aS=>hR (eI h aS)⟩
 exact qcl):Zp:=h
open cD in
theorem LJ.start{aB Y U d1 d2 d3 g a9 am al}(hn:vs.length=U)
  (bq:G0 ((w.alloc g).alloc fp) w.heap.size a9 am al) (bb:∀o,((w.alloc g).alloc fp).frozen? ⟨w.heap.size,o,none⟩=false) (C:RB ((w.alloc g).alloc fp) (w.heap.size+1) (.slice none 0 0) (.slice none 0 0) (.slice none 0 0)) (k:Kept 0 0 ((w.alloc g).alloc fp) aB)
  (b1:aB.ownsRow ((w.alloc g).alloc fp).heap.size 3 1 (.slice N Y d1) Y (ins.map (Value.int .i64))) (bS:aB.ownsRow ((w.alloc g).alloc fp).heap.size 53 6 (.slice a2 U d2) U (fQ vs)) (b5:aB.ownsRow ((w.alloc g).alloc fp).heap.size 3 1 (.slice ab Z d3) Z (outs.map (Value.int .i64)))
  (aO:Apart (.slice a2 U d2) (.slice N Y d1)) (aR:Apart (.slice a2 U d2) (.slice ab Z d3)) (b2:Apart (.slice N Y d1) (.slice ab Z d3)):
  ∀W',IR W' (fB aB w.heap.size (.slice N Y d1) (.slice a2 U d2) (.slice ab Z d3)).heap.size (List.replicate U 0)->Kept 0 0 (fB aB w.heap.size (.slice N Y d1) (.slice a2 U d2) (.slice ab Z d3)) W'->
   LJ w W' (fB aB w.heap.size (.slice N Y d1) (.slice a2 U d2) (.slice ab Z d3)).heap.size N Y d1 ab Z d3 ins outs vs (List.replicate U 0) ((w.alloc g).alloc fp).heap.size (Value.slice a2 U d2).ownBlock a2 d2:=by
 intro W' bB Q;have bp:((w.alloc g).alloc fp).heap.size=w.heap.size+1+1:=by simp
 exact qez
structure Oth (w:World)(Mb:Nat)(b1:Option Addr)(n1 e1:Nat)(b3:Option Addr)(n3 e3:Nat)(R:Option Nat)(B:Nat):Prop where
 p:w.heap.size+1+1<=B
 m:Mb≠B
 r:R≠some B
 i:(Value.slice b1 n1 e1).ownBlock≠some B
 o:(Value.slice b3 n3 e3).ownBlock≠some B
theorem LJ.oth{W Y}(h:LJ w W ar N Y ae ab Z ak ins outs vs aP base aa a2 cap)(aS:W.heap.size<=I):Oth w ar N Y ae ab Z ak aa I where
 p:=hR h.b.sz
 m:=hR h.m.lt
 r:=λc=>by have:=(eI h.g.own (h.g.row.trans c)).2;omega
 i:=λc=>hR ((eI h.i c).2)
 o:=λc=>hR ((eI h.o c).2)
theorem cV.qde(h:Zp:=by
 exact {
  g:=⟨by simpa using h.g.lt,λo=>by simp[h.g.free o],by rw[c _ _ xaa];exact h.g.c0,by rw[c _ _ xaa];exact h.g.c1,by rw[c _ _ xaa];exact h.g.c2,eJ h.g.own (hU h.g.row t.r),h.g.row,h.g.ne,by simpa using h.g.sz⟩
  b:=⟨by simpa using bz,by rw[c _ _ xaa];exact bj,by rw[c _ _ xaa];exact aQ,by rw[c _ _ xaa];exact a6,by simp[bL],by simp[bI],by simp[bJ]⟩
  m:=by
   unfold IR
   rw[Below.heap_setCell W _ u _ t.m]
   exact h.m
  i:=eJ h.i t.i
  o:=eJ h.o t.o
  k:=nV w W h.k I j _ xaa
  hb:=h.hb,dM:=h.dM,rM:=h.rM,a1:=h.a1,a3:=h.a3,a4:=h.a4,m1:=h.m1,m3:=h.m3}):Zp:=h
open cV in
theorem LJ.other{W Y}(h:LJ w W ar N Y ae ab Z ak ins outs vs aP base aa a2 cap)(t:Oth w ar N Y ae ab Z ak aa I)(j u):LJ w (W.setCell ⟨I,j,none⟩ u) ar N Y ae ab Z ak ins outs vs aP base aa a2 cap:=by
 exact qdd
theorem ir3(w:World)(a b c):IR (w.alloc (.cells #[hI a,hI b,hI c] 3)) w.heap.size [a,b,c]:=by
 unfold IR;rw[heap_alloc_new];rfl
theorem Fr(v aP q)(aq:q<3):([ovs v aP q 0,ovs v aP q 1,ovs v aP q 2]:List Int).set q (aP.getD (fld v q).toNat 0)=[ovs v aP (q+1) 0,ovs v aP (q+1) 1,ovs v aP (q+1) 2]:=by
 grind [ovs]
theorem Fs(vs x t s)(h:s≠x)(ad:s<vs.length):(jst vs x t 0).2.getD s 0=-1:=by
 unfold jst;grind
theorem LJ.fin{W Y}(h:LJ w W ar N Y ae ab Z ak ins outs vs aP base aa a2 cap)(k:Kept 0 0 W W'):
  ((fB W' (w.heap.size+1) (.slice N Y ae) (.slice a2 vs.length cap) (.slice ab Z ak)).ownsRow w.heap.size 3 1 (.slice N Y ae) Y (ins.map (Value.int .i64))/\(fB W' (w.heap.size+1) (.slice N Y ae) (.slice a2 vs.length cap) (.slice ab Z ak)).ownsRow w.heap.size 53 6 (.slice a2 vs.length cap) vs.length (fQ vs)/\(fB W' (w.heap.size+1) (.slice N Y ae) (.slice a2 vs.length cap) (.slice ab Z ak)).ownsRow w.heap.size 3 1 (.slice ab Z ak) Z (outs.map (Value.int .i64)))/\Kept 0 0 w (fB W' (w.heap.size+1) (.slice N Y ae) (.slice a2 vs.length cap) (.slice ab Z ak)):=by
 exact xdr
theorem LJ.call{w W aD ar Y ae Z ak base cap N ab a2 ins outs aP vs aa}(h:LJ w W ar N Y ae ab Z ak ins outs vs aP base aa a2 cap)(k:Kept 0 0 W aD)(u)(hn:vs.length<=1000000):
  Calls prog 32 #[eZ N Y ae a2 vs.length cap ab Z ak,u.agg] aD λe af=>∃aG cap',e=.returned (eZ N Y ae (some ⟨aG,0,none⟩) (vs.length+1) cap' ab Z ak)/\
   (∃u,af.cell? ⟨w.heap.size,0,none⟩=some u)/\(∃u,af.cell? ⟨w.heap.size,1,none⟩=some u)/\(∃u,af.cell? ⟨w.heap.size,2,none⟩=some u)/\(∀o,af.frozen? ⟨w.heap.size,o,none⟩=false)/\
   V (LJ w (fB af w.heap.size (.slice N Y ae) (hH aG (vs.length+1) cap') (.slice ab Z ak)) ar N Y ae ab Z ak ins outs (vs++[u]) aP base (some aG) (some ⟨aG,0,none⟩) cap'):=by
 exact xcc
theorem AL{i}(h:okV ins vs i=true):0<=(vs.getD i hM).op/\(vs.getD i hM).op<=13:=by
 grind [okV,rh]
theorem AM(w a1 a2 a3 Y c1 U c2 Z c3 ins vs outs)(f:GS w a1 Y a2 U a3 Z ins vs outs)(ah:∀k,k<U->1<=(vs.getD k hM).len/\(vs.getD k hM).len<=1000):
  Calls prog 129 #[eZ a1 Y c1 a2 U c2 a3 Z c3] w λe J=>e=.returned (.bool (!kM vs))/\Kept 0 0 w J:=by
 have hn:=f.v.len;have bH:=ez 0 0 w (eY a1 Y c1 a2 U c2 a3 Z c3);by_cases R:U<=2000
 ·have bv:V _:=BK _ _ _ _ _ c1 _ c2 _ c3 _ _ _ (f.keep bH) R ah;have HK:V _:=bH;have aQ:((U:Int)<=2000):=xaa;by_cases ai:fe vs<=50000
  ·have e:kM vs=false:=by grind [kM]
   rw[e];have a6:=decide_eq_true ai;exact xfk
  have e:kM vs=true:=by grind [kM]
  rw[e];have a6:=yax ai;exact xfk
 have e:kM vs=true:=by grind [kM]
 rw[e];have aQ:¬((U:Int)<=2000):=xaa;clear f ah hn e;go_enter func129,ntmps129;go_wp2;go_ret;exact⟨rfl,bH⟩
def tz (act:List Bool)(v:Vl)(k:Nat):Bool:=(List.range k).any λq=>act.getD (fld v q).toNat false
theorem C7(act v k):tz act v (k+1)=(tz act v k||act.getD (fld v k).toNat false):=by
 simp_all [tz,List.range_succ]
theorem sF{i j b}(h:j≠i):(xs.set i b).getD j false=xs.getD j false:=by
 grind
theorem yT(vs0 x):∀m i,x+m<i->(jC vs0 x m).getD i false=false
 |0,i,h=>by
  rw[jC,sF xaa,yah,List.getElem?_replicate]
  split<;>rfl
 |m+1,i,h=>by rw[jC,sF xaa,yT vs0 x m i xaa]
theorem C8{i}(h:xs.getD i false=false):xs.set i false=xs:=by
 by_cases hi:i<xs.length
 ·exact xja
 exact List.set_eq_of_length_le xaa
structure AcS (w W:World)(P g2 n A:Nat)(b1 b3:Option Addr)(n1 c1 c2 n3 c3:Nat)(vs:List Vl)(act:List Bool):Prop where
 g:G0 W P (.slice b1 n1 c1) (.slice (some ⟨g2,0,none⟩) n c2) (.slice b3 n3 c3)
 v:VA W g2 n vs
 a:BR W A act
 k:Kept 0 0 w W
 n1:P≠A
 n2:g2≠A
 l:w.heap.size<=A
theorem AcS.keep{W Y}(h:AcS w W P ag n A N ab Y c1 c2 Z c3 vs act)(k:Kept 0 0 W W'):AcS w W' P ag n A N ab Y c1 c2 Z c3 vs act:=
 ⟨h.g.keep k,VA.keep h.v k yaa,BR.keep h.a k yaa,h.k.trans k,h.n1,h.n2,h.l⟩
theorem AcS.set{W Y}(h:AcS w W P ag n A N ab Y c1 c2 Z c3 vs act)(i b):AcS w (W.setCell ⟨A,i,none⟩ (.bool b)) P ag n A N ab Y c1 c2 Z c3 vs (act.set i b):=
 have k:=od (S:=λq=>q=A) W A i (.bool b) rfl
 ⟨h.g.keepC k h.n1,h.v.keepC k h.n2,BR.set h.a i b,h.k.new (eX (lo:=A) (hi:=A+1) W ⟨A,i,none⟩ (.bool b) yac) h.l,h.n1,h.n2,h.l⟩
theorem yU(w N ab ag Y c1 n c2 Z c3 s x vs)(z:VA w ag n vs)(ah:n<=2000)(ad:s<n)(au:x<n)(bZ:∀j,j<n->0<=(vs.getD j hM).op/\(vs.getD j hM).op<=13)(bV:∀j,j<n->∀k,k<cnt (vs.getD j hM).op->0<=fld (vs.getD j hM) k/\fld (vs.getD j hM) k<j):
  Calls prog 143 #[eZ N Y c1 (some ⟨ag,0,none⟩) n c2 ab Z c3,hI s,hI x] w λe J=>∃A,e=.returned (hH A n n)/\BR J A (jC vs x (s-x))/\w.heap.size<=A/\Kept 0 0 w J:=by
 have aF:=z.lt;have al:V _:=z.len;have az:=Ff n (w.alloc (eY N Y c1 (some ⟨ag,0,none⟩) n c2 ab Z c3)) xaa;have an:=ez 0 0 w (eY N Y c1 (some ⟨ag,0,none⟩) n c2 ab Z c3);have ao:=ez 0 0 (w.alloc (eY N Y c1 (some ⟨ag,0,none⟩) n c2 ab Z c3)) (.cells (madeCells #[.bool false] n) 4);have a7:=BR.made (w.alloc (eY N Y c1 (some ⟨ag,0,none⟩) n c2 ab Z c3)) n;rw[show(w.alloc _).heap.size=w.heap.size+1 by simp]at a7 az
 have X:V (AcS w _ _ _ n _ _ _ _ _ _ _ _ _ _):=
  ⟨(fE w _ _ _).keep ao,VA.keep z (an.trans ao) yaa,a7,an.trans ao,by omega,by omega,by omega⟩
 have aW:V (AcS w (((w.alloc (eY N Y c1 (some ⟨ag,0,none⟩) n c2 ab Z c3)).alloc (.cells (madeCells #[.bool false] n) 4)).setCell ⟨w.heap.size+1,x,none⟩ (.bool true)) w.heap.size ag n (w.heap.size+1) N ab Y c1 c2 Z c3 vs (jC vs x 0)):=by
  have:=X.o.set x true;unfold jC;rw[al.o];exact this
 have aU:=X.o.g.q1;have f:=BR.cell X.o.a x (by grind);have q:=BR.free X.o.a x;generalize (List.replicate n _).getD x _=cy at f;have bD:(0:Int)<=x:=xaa;have cg:(x:Int)<n:=xaa;have K:IntKind.i64.wrap (x+1)=x+1:=by rw[IntKind.wrap_i64];omega
 have a9:V _:=bZ;have et:V _:=bV;clear z an ao a7 X bZ bV;generalize (w.alloc _).alloc _=af at az aW aU f q;go_enter func143,ntmps143;go_wp2_with fail;clear az aU f q;generalize af.setCell _ _=bA at aW⊢;generalize y:w.heap.size+1=A at aW⊢;clear y;go_loopw [8] (λv W=>∃(i m:Nat),v=hI i/\i=x+1+m/\m<=s-x/\V (AcS w W w.heap.size ag n A N ab Y c1 c2 Z c3 vs (jC vs x m))) (λv _=>s+1-(intOf v).toNat)
 case atStart=>grind
 case round=>
  obtain⟨i,m,rfl,h,aY,bF⟩:=hrel;clear aW;by_cases gA:i<=s
  ·have p:(0:Int)<=i:=xaa;have aA:(i:Int)<n:=xaa;have g:(i:Int)<=s:=xaa;have cr:i<n:=xaa;obtain⟨v,aL⟩:∃v,v=vs.getD i hM:=⟨_,rfl⟩
   have bT:V _:=aL;have bi:V _:=LB v.op (by rw[aL];exact(a9.o i cr).1) (by rw[aL];exact(a9.o i cr).2);have ef:=et.o i cr;rw[<-aL]at ef;have ff:V _:=ef
   have aq:V (AcS w wr w.heap.size ag n A N ab Y c1 c2 Z c3 vs ((jC vs x m).set i (tz (jC vs x m) v 0))):=by
    have e:(jC _ x m).set i (tz (jC vs x m) v 0)=jC _ x m:=C8 (yT vs x m i xaa);show AcS _ _ _ _ _ _ _ _ _ _ _ _ _ _ _;rw[e];exact bF.o
   have r:V (i=x+1+m/\m<=s-x):=⟨h,aY⟩
   have ep:V ((jC vs x m).length=n):=by show _=_;rw[oe,al.o]
   have c6:V (jC vs x (m+1)=(jC vs x m).set i (tz (jC vs x m) v (cnt v.op))):=by
    show _=_;rw[jC,<-h,<-aL];rfl
   generalize jC _ x m=act at aq ep c6;have hs:IntKind.i64.wrap (i+1)=i+1:=by rw[IntKind.wrap_i64];omega
   clear bF h aY aL ef;go_wp2_with fail;go_loopw [9] (λu W=>∃k:Nat,k<=cnt v.op/\u=hI k/\V (AcS w W w.heap.size ag n A N ab Y c1 c2 Z c3 vs (act.set i (tz act v k)))) (λu _=>cnt v.op-(intOf u).toNat)
   case atStart=>exact⟨0,Nat.zero_le _,rfl,aq⟩
   case round=>
    obtain⟨k,O,rfl,aT⟩:=hrel;clear aq;have aU:=aT.o.g.q1;have bg:=aT.o.v.at_ i cr;rw[<-bT.o]at bg;obtain⟨bM,aZ,be,bz,bE,bl⟩:=bg;by_cases aF:k<cnt v.op
    ·obtain⟨o,av,gE⟩:∃o:Nat,fld v k=o/\o<i:=by
      have:=ff.o k aF;exact⟨(fld v k).toNat,by omega,by omega⟩
     have ai:=gK v.op;have di:V (∀W,Calls _ _ _ W λe J=>e=.returned (.int _ o)/\Kept 0 0 W _):=λW=>by rw[<-av];exact nf W v k xaa
     have f:=BR.cell aT.o.a o (by rw[List.length_set,ep.o];omega);rw[sF xaa]at f
     have B:V (tz act v (k+1)=(tz act v k||act.getD o false)):=by
      show _=_;rw[C7,av];rfl
     have H:V _:=c6.o;have bY:k<(cnt v.op:Int):=xaa;have b1:(0:Int)<=o:=xaa;have bS:(o:Int)<n:=xaa;have fv:IntKind.i64.wrap (k+1)=k+1:=by rw[IntKind.wrap_i64];omega
     have t:V (∀W,Kept 0 0 _ W->W.cell? _=some _):=λW Q=>by
      rw[Q.cell (p:=⟨A,o,none⟩) aT.o.a.lt xaa];exact f
     clear av f;go_wp2_with (first|(go_at_call 37;refine yai (bi.o _) ?_;rintro e ck ⟨rfl,rfl⟩)|fail);refine yai (di.o _) ?_;rintro e cc ⟨rfl,b0⟩;have f:=t.o _ b0;have C:V _:=aT.o.keep b0;have G:=BR.cell C.o.a i (by rw[List.length_set,ep.o];omega);have q:=BR.free C.o.a i;generalize (act.set i _).getD i _=cy at G;clear aU bM aZ be bz bE bl b0 t di aT;cases hb:act.getD o false
     ·rw[hb]at f
      have HR:V (AcS w cc w.heap.size ag n A N ab Y c1 c2 Z c3 vs (act.set i (tz act v (k+1)))):=by
       show AcS _ _ _ _ _ _ _ _ _ _ _ _ _ _ _;rw[B.o,hb,Bool.or_false];exact C.o
      exact xij
     rw[hb]at f
     have HR:V (AcS w (cc.setCell ⟨A,i,none⟩ (.bool true)) w.heap.size ag n A N ab Y c1 c2 Z c3 vs (act.set i (tz act v (k+1)))):=by
      have:=C.o.set i true;rw[List.set_set]at this;show AcS _ _ _ _ _ _ _ _ _ _ _ _ _ _ _;rw[B.o,hb,Bool.or_true];exact this
     exact xij
    have bY:¬(k<(cnt v.op:Int)):=xaa;have ee:k=cnt v.op:=xaa
    have HR:V (AcS w wr w.heap.size ag n A N ab Y c1 c2 Z c3 vs (jC vs x (m+1))):=by
     show AcS _ _ _ _ _ _ _ _ _ _ _ _ _ _ _;rw[c6.o,<-ee];exact aT.o
    clear aT ee;go_wp2_with (first|(go_at_call 37;refine yai (bi.o _) ?_;rintro e ck ⟨rfl,rfl⟩)|fail);clear aU bM aZ be bz bE bl;go_roundw
    case rel=>exact⟨i+1,m+1,by go_num,hR r.o,hR r.o,HR⟩
    case measure=>simp[intOf];omega
  have F:m=s-x:=xaa;have g:¬((i:Int)<=s):=xaa;have l:V _:=bF.o;clear bF h;go_wp2_with fail;go_ret;rw[<-F];exact⟨A,rfl,l.o.a,l.o.l,l.o.k⟩
end
section
variable {w aB W':World}{H ins outs aP:List Int}{n ar Y A ae Z ak base cap cap' I:Nat}{st:List Vl×List Int}{act:List Bool}{N ab a2 a2':Option Addr}{vs vs2:List Vl}{aa R':Option Nat}
structure LK (w W:World)(b1:Option Addr)(n1 e1:Nat)(b3:Option Addr)(n3 e3:Nat)(ins outs:List Int)(vs:List Vl)(base:Nat)(R:Option Nat)(a2:Option Addr)(cap:Nat):Prop where
 g:SG W w.heap.size b1 n1 e1 b3 n3 e3 vs base R a2 cap
 b:RB W (w.heap.size+1) (.slice none 0 0) (.slice none 0 0) (.slice none 0 0)
 i:W.ownsRow base 3 1 (.slice b1 n1 e1) n1 (ins.map (Value.int .i64))
 o:W.ownsRow base 3 1 (.slice b3 n3 e3) n3 (outs.map (Value.int .i64))
 k:Kept 0 0 w W
 hb:w.heap.size+1+1<=base
 a1:Apart (.slice b1 n1 e1) (.slice a2 vs.length cap)
 a3:Apart (.slice b3 n3 e3) (.slice a2 vs.length cap)
 a4:Apart (.slice b1 n1 e1) (.slice b3 n3 e3)
theorem LK.keep{W}(h:LK w W N Y ae ab Z ak ins outs vs base aa a2 cap)(k:Kept 0 0 W W'):LK w W' N Y ae ab Z ak ins outs vs base aa a2 cap:=
 {h with g:=h.g.keep k,b:=h.b.keep k,i:=e8 h.i k,o:=e8 h.o k,k:=h.k.trans k}
structure Farb (w:World)(b1:Option Addr)(n1 e1:Nat)(b3:Option Addr)(n3 e3:Nat)(R:Option Nat)(B:Nat):Prop where
 p:w.heap.size+1+1<=B
 r:R≠some B
 i:(Value.slice b1 n1 e1).ownBlock≠some B
 o:(Value.slice b3 n3 e3).ownBlock≠some B
theorem LK.far{W}(h:LK w W N Y ae ab Z ak ins outs vs base aa a2 cap)(aS:W.heap.size<=I):Farb w N Y ae ab Z ak aa I where
 p:=hR h.b.sz
 r:=λc=>by have:=(eI h.g.own (h.g.row.trans c)).2;omega
 i:=λc=>hR ((eI h.i c).2)
 o:=λc=>hR ((eI h.o c).2)
theorem cW.qde(h:Zp:=by
 exact {
  g:=⟨by simpa using h.g.lt,λo=>by simp[h.g.free o],by rw[c _ _ xaa];exact h.g.c0,by rw[c _ _ xaa];exact h.g.c1,by rw[c _ _ xaa];exact h.g.c2,eJ h.g.own (hU h.g.row t.r),h.g.row,h.g.ne,by simpa using h.g.sz⟩
  b:=⟨by simpa using bz,by rw[c _ _ xaa];exact bj,by rw[c _ _ xaa];exact aQ,by rw[c _ _ xaa];exact a6,by simp[bL],by simp[bI],by simp[bJ]⟩
  i:=eJ h.i t.i
  o:=eJ h.o t.o
  k:=nV w W h.k I j _ xaa
  hb:=h.hb,a1:=h.a1,a3:=h.a3,a4:=h.a4}):Zp:=h
open cW in
theorem LK.other{W}(h:LK w W N Y ae ab Z ak ins outs vs base aa a2 cap)(t:Farb w N Y ae ab Z ak aa I)(j u):LK w (W.setCell ⟨I,j,none⟩ u) N Y ae ab Z ak ins outs vs base aa a2 cap:=by
 exact qdd
theorem aV.qbi(h:Zp:=by
 exact⟨{
  g:=aO
  b:=h.b.stq aR xaa j
  i:=sE h.i aR ch cq
  o:=sE h.o aR bS b1
  k:=Chg.kept h.k aR.chg (by
   rintro i (c|c)
   ·omega
   ·have:=(eI h.g.own (h.g.row.trans c)).1;have:=h.hb;omega)
  hb:=h.hb
  a1:=ev
  a3:=b5
  a4:=h.a4},aR⟩):Zp:=h
open aV in
theorem LK.step{W af aX l h'}(h:LK w W N Y ae ab Z ak ins outs vs base aa a2 cap)(k:Kept 0 0 W aB)
  (own:af.ownsRow base 53 6 (.slice a2' vs2.length cap') vs2.length (fQ vs2)) (aC:(Value.slice a2' vs2.length cap').ownBlock=R') (s:StQ (λ_=>False) aa aB R' af) (ao:Kept l h' af aX) (ah:W.heap.size<=l) (C:∀g,R'=some g->g<l\/h'<=g):
  LK w (fB aX w.heap.size (.slice N Y ae) (.slice a2' vs2.length cap') (.slice ab Z ak)) N Y ae ab Z ak ins outs vs2 base R' a2' cap'/\StQ (λi=>i=w.heap.size) aa W R' (fB aX w.heap.size (.slice N Y ae) (.slice a2' vs2.length cap') (.slice ab Z ak)):=by
 obtain⟨aO,aR⟩:=h.g.put2 k own aC s ao ah C;exact qbh
theorem LK.read{W}(h:LK w W N Y ae ab Z ak ins outs vs base aa a2 cap)(hn:0<vs.length):
  ∃g,a2=some ⟨g,0,none⟩/\aa=some g/\g<W.heap.size/\∀j,j<vs.length->At W g (j*6) (vs.getD j hM):=by
 exact xia
theorem LK.fin{W}(h:LK w W N Y ae ab Z ak ins outs vs base aa a2 cap)(k:Kept 0 0 W W'):
  ((fB W' (w.heap.size+1) (.slice N Y ae) (.slice a2 vs.length cap) (.slice ab Z ak)).ownsRow w.heap.size 3 1 (.slice N Y ae) Y (ins.map (Value.int .i64))/\(fB W' (w.heap.size+1) (.slice N Y ae) (.slice a2 vs.length cap) (.slice ab Z ak)).ownsRow w.heap.size 53 6 (.slice a2 vs.length cap) vs.length (fQ vs)/\(fB W' (w.heap.size+1) (.slice N Y ae) (.slice a2 vs.length cap) (.slice ab Z ak)).ownsRow w.heap.size 3 1 (.slice ab Z ak) Z (outs.map (Value.int .i64)))/\Kept 0 0 w (fB W' (w.heap.size+1) (.slice N Y ae) (.slice a2 vs.length cap) (.slice ab Z ak)):=by
 exact xdr
theorem LK.call{w W aD Y ae Z ak base cap N ab a2 ins outs vs aa}(h:LK w W N Y ae ab Z ak ins outs vs base aa a2 cap)(k:Kept 0 0 W aD)(u)(hn:vs.length<=1000000):
  Calls prog 32 #[eZ N Y ae a2 vs.length cap ab Z ak,u.agg] aD λe af=>∃aG cap',e=.returned (eZ N Y ae (some ⟨aG,0,none⟩) (vs.length+1) cap' ab Z ak)/\
   (∃u,af.cell? ⟨w.heap.size,0,none⟩=some u)/\(∃u,af.cell? ⟨w.heap.size,1,none⟩=some u)/\(∃u,af.cell? ⟨w.heap.size,2,none⟩=some u)/\(∀o,af.frozen? ⟨w.heap.size,o,none⟩=false)/\
   V (LK w (fB af w.heap.size (.slice N Y ae) (hH aG (vs.length+1) cap') (.slice ab Z ak)) N Y ae ab Z ak ins outs (vs++[u]) base (some aG) (some ⟨aG,0,none⟩) cap'/\StQ (λi=>i=w.heap.size) aa W (some aG) (fB af w.heap.size (.slice N Y ae) (hH aG (vs.length+1) cap') (.slice ab Z ak))):=by
 exact xcc
structure LG (w W:World)(Mb A:Nat)(b1:Option Addr)(n1 e1:Nat)(b3:Option Addr)(n3 e3:Nat)(ins outs:List Int)(vs:List Vl)(mv:List Int)(act:List Bool)(base:Nat)(R:Option Nat)(a2:Option Addr)(cap:Nat):Prop where
 l:LK w W b1 n1 e1 b3 n3 e3 ins outs vs base R a2 cap
 m:IR W Mb mv
 a:BR W A act
 fm:Farb w b1 n1 e1 b3 n3 e3 R Mb
 fa:Farb w b1 n1 e1 b3 n3 e3 R A
 ne:Mb≠A
theorem LG.keep{W}(h:LG w W ar A N Y ae ab Z ak ins outs vs aP act base aa a2 cap)(k:Kept 0 0 W W'):LG w W' ar A N Y ae ab Z ak ins outs vs aP act base aa a2 cap:=
 ⟨h.l.keep k,h.m.keep k yaa,h.a.keep k yaa,h.fm,h.fa,h.ne⟩
theorem LG.set{W}(h:LG w W ar A N Y ae ab Z ak ins outs vs aP act base aa a2 cap)(j r):LG w (W.setCell ⟨ar,j,none⟩ (hI r)) ar A N Y ae ab Z ak ins outs vs (aP.set j r) act base aa a2 cap:=
 ⟨h.l.other h.fm j _,h.m.set j r,h.a.keepC (od (S:=λq=>q=ar) W ar j (hI r) rfl) (λe=>h.ne e.symm),h.fm,h.fa,h.ne⟩
theorem LG.stq{W}(h:LG w W ar A N Y ae ab Z ak ins outs vs aP act base aa a2 cap)(l:LK w W' N Y ae ab Z ak ins outs vs2 base R' a2' cap')(q:StQ (λi=>i=w.heap.size) aa W R' W'):LG w W' ar A N Y ae ab Z ak ins outs vs2 aP act base R' a2' cap':=by
 have f:∀{I},I<W.heap.size->Farb w N Y ae _ _ _ aa I->Farb w _ _ _ ab Z ak R' I:=λaS t=>⟨t.p,by
  rcases q.row with e|⟨r,e,ay⟩
  ·rw[e];exact t.r
  grind,t.i,t.o⟩
 refine⟨l,h.m.stq q (hR h.fm.p) h.fm.r,h.a.keepC q.chg ?_,f h.m.lt h.fm,f h.a.lt h.fa,h.ne⟩;rintro (c|c)
 ·have:=h.fa.p;omega
 exact h.fa.r c
def gdn (vs:List Vl)(act:List Bool)(s:Nat):Nat->List Vl×List Int
 |0=>xe vs s
 |j+1=>giM vs act (s-j) (gdn vs act s j)
theorem tA(vs act s x):∀k,k<=s-x->yR vs act x (xe vs s) ((List.range k).map (λi=>(s-x)-1-i))=gdn vs act s k
 |0,_=>rfl
 |k+1,h=>by
  rw[List.range_succ,List.map_append,List.map_cons,List.map_nil,AJ,tA _ _ s x k xaa,gdn]
  grind
def xi (n:Nat)(act:List Bool)(sl:List Int):Prop:=∀q,q<n->sl.getD q 0=-1\/(0<=sl.getD q 0/\act.getD q false=true)
theorem MJ{p}[Decidable p]{a b:List Vl×Int}(G:0<=a.2)(hb:0<=b.2):0<=(if p then a else b).2:=by grind
theorem MK(i v l k d bQ)(aV:0<=d):0<=(nw i v l k d bQ).2:=by
 unfold nw;repeat' (apply MJ)
 all_goals omega
theorem yV{o p}(h:xi n act H)(ah:H.length=n)(aK:0<=p)(G:act.getD o false=true):xi n act (H.set o p):=λq aq=>by
 rw[yah,List.getElem?_set]
 by_cases e:o=q
 ·simp_all
 ·rw[hJ e,<-yah]
  exact h q aq
theorem Jg{i k}(h:xi n act st.2)(ah:st.2.length=n)(aV:0<=st.2.getD i 0):xi n act (gkM vs act i k st).2:=by
 grind [gkM,mz,yV,MK]
theorem C9{o i p}(h:o≠i):(mz vs o p st).2.getD i 0=st.2.getD i 0:=by
 unfold mz;grind
theorem Jh{i k}(h:(fld (vs.getD i hM) k).toNat≠i):(gkM vs act i k st).2.getD i 0=st.2.getD i 0:=by
 grind [gkM,C9]
theorem tC{vs act i st}:∀k,(∀q,q<k->(fld (vs.getD i hM) q).toNat≠i)->(ki vs act i st k).2.getD i 0=st.2.getD i 0
 |0,_=>rfl
 |k+1,h=>by rw[ki,Jh (h k yae),tC k (λq aq=>h q xaa)]
theorem tD{vs act n i st}(h:xi n act st.2)(ah:st.2.length=n)(aV:0<=st.2.getD i 0):∀k,(∀q,q<k->(fld (vs.getD i hM) q).toNat≠i)->xi n act (ki vs act i st k).2
 |0,_=>h
 |k+1,bb=>Jg (tD h ah aV k (λq aq=>bb q xaa)) (by rw[qt];exact ah) (by grind [tC])
theorem Ji{i}(h:xi n act st.2)(ah:st.2.length=n)(hi:i<n)(bb:∀q,q<cnt (vs.getD i hM).op->(fld (vs.getD i hM) q).toNat≠i):xi n act (giM vs act i st).2:=by
 unfold giM;split
 ·exact h
 rename_i ai;exact tD h ah (by rcases h i hi with c|c<;>grind) _ bb
structure GdI (vs:List Vl)(act:List Bool)(n:Nat)(L:Nat)(C:Int)(st:List Vl×List Int):Prop where
 i:xi n act st.2
 l:st.2.length=n
 p:Pre vs st.1
 z:SzU L C st.1
theorem BS{vs act n s}(hn:vs.length=n)(ad:s<n)(bp:SzU 2000 50000 vs)(bO:LnB vs)(G:act.getD s false=true)(bb:∀i,i<n->∀q,q<cnt (vs.getD i hM).op->(fld (vs.getD i hM) q).toNat≠i):∀j,j<=s->GdI vs act n (2001+12*j) (51000+12000*(j:Int)) (gdn vs act s j)
 |0,_=>by
  refine⟨?_,by simp[gdn,xe,hn],⟨_,rfl⟩,?_⟩
  ·refine yV (λq aq=>.inl ?_) (by grind) xaa G
   simp_all
  ·exact(SzU.app (L':=1) (C':=1000) bp ⟨by simp,by simp[fe],by simp[fe]⟩).mono xaa xaa
 |j+1,h=>by
  have ag:=BS hn ad bp bO G bb j xaa
  exact⟨Ji ag.i ag.l xaa (bb _ xaa),by rw[gdn,Jf];exact ag.l,Je ag.p,(MG bO ag.z).mono xaa xaa⟩
theorem mS{s q}(h:q<=s):(H.take (s+1)).getD q 0=H.getD q 0:=by
 grind
theorem rl(H:List Int)(s o p):(H.take (s+1)).set o p=(H.set o p).take (s+1):=List.take_set.symm
theorem Da(vs s)(ad:s<vs.length):(List.replicate (s+1) (-1:Int)).set s (vs.length:Nat)=(xe vs s).2.take (s+1):=by
 unfold xe;simp only;rw[<-rl,List.take_replicate,show min (s+1) vs.length=s+1 by omega]
theorem cE.qcm(h:Zp:=by
 have f:RB (fB aB w.heap.size (.slice N Y d1) (.slice a2 U d2) (.slice ab Z d3)) (w.heap.size+1) (.slice none 0 0) (.slice none 0 0) (.slice none 0 0):=by
  obtain⟨bz,bj,aQ,a6,bL,bI,bJ⟩:=C.keep k;exact xev
 have be:=K.size;subst hn
 exact {
  g:=⟨cc,λo=>by
    unfold fB
    simp[k.frozen (p:=⟨w.heap.size,o,none⟩) bq.sz xaa,bb o],bh,aU,aY,p2,rfl,λc=>by grind,yan c7 be⟩
  b:=f
  i:=a8
  o:=z
  k:=Kept.new (cI.trans k) K yad
  hb:=i
  a1:=λI B R=>aO I R B
  a3:=λI B R=>aR I R B
  a4:=b2}):Zp:=h
theorem cE.qfa(h:Zp:=by
 have aw:∀{e size n:Nat}{v:Value}{xs:List _},aB.ownsRow base e _ v n xs->(fB aB _ _ _ _).ownsRow _ e size v n _/\(∀I,v.ownBlock=some I->w.heap.size+1+1<=I/\I<aB.heap.size):=λh=>
  ⟨gM h K (λb hb=>hR ((eI h hb).1)),λI aS=>hR (eI h aS)⟩
 exact qcl):Zp:=h
open cE in
theorem LK.start{U d1 d2 d3 g a9 am al}(hn:vs.length=U)
  (bq:G0 ((w.alloc g).alloc fp) w.heap.size a9 am al) (bb:∀o,((w.alloc g).alloc fp).frozen? ⟨w.heap.size,o,none⟩=false) (C:RB ((w.alloc g).alloc fp) (w.heap.size+1) (.slice none 0 0) (.slice none 0 0) (.slice none 0 0)) (k:Kept 0 0 ((w.alloc g).alloc fp) aB) (i:w.heap.size+1+1<=base) (c7:base<=aB.heap.size)
  (b1:aB.ownsRow base 3 1 (.slice N Y d1) Y (ins.map (Value.int .i64))) (bS:aB.ownsRow base 53 6 (.slice a2 U d2) U (fQ vs)) (b5:aB.ownsRow base 3 1 (.slice ab Z d3) Z (outs.map (Value.int .i64)))
  (aO:Apart (.slice a2 U d2) (.slice N Y d1)) (aR:Apart (.slice a2 U d2) (.slice ab Z d3)) (b2:Apart (.slice N Y d1) (.slice ab Z d3)):
  LK w (fB aB w.heap.size (.slice N Y d1) (.slice a2 U d2) (.slice ab Z d3)) N Y d1 ab Z d3 ins outs vs base (Value.slice a2 U d2).ownBlock a2 d2:=by
 exact qez
end
section
attribute [local go_sem] eG eE eD
noncomputable abbrev PZ (n:Nat):Code:=(Tryz.f139.body.bind (pA n)).getD .skip
theorem ML{w W ar A Y ae Z ak base cap bu R o N ab ins outs aP act us aa p q g K b a c d f h i j k n r s t u v x y z I C D E F G H cH aL L M bQ aY P Q S T b8 Vaa X cy cb aS eb aw ec ed ee ef eg ei ej ek el bA cd bK ep er et bT eu ev eA eB cw cP cQ cS aE di cT cU cx cV cW bh cX c6 c8 c9 dd cf aW b0 dg dp ds cM d0 ea bw a1 a2 a3 a4 bU ci cI aJ cO fM bp cK fP cC fT f0 f4 cu f5 f6 f7 ga cN gb gc gd gf bs bt gp e2 gq bL bz cz ct eC eS eT aA aI b9 cn cj gv cg ca b5 b3 gx cr ch bE e0 e1 e3 e5 e6 e7 e9 fa fc ff fi fl fm fo fq fs fu fv fz fG fL bb}(ad:V (LG w W ar A N Y ae ab Z ak ins outs us aP act base aa (some ⟨bu,0,none⟩) cap))(au:us.length<=900000)(av:o<us.length)(aT:o<R)(az:aP.length=R)(cF:(us.getD o hM).len=g)(aq:aP.getD o 0=q)
  (O:∀(W':World) (aG cap':Nat) (l m B U ag ah ao ap ay aD aF aK aM aO:Value),V (LG w W' ar A N Y ae ab Z ak ins outs (us++[eL 2 g q p 0]) aP act base (some aG) (some ⟨aG,0,none⟩) cap')->K ⟨#[b,a,c,hG w.heap.size,d,f,h,i,j,k,hH ar R R,n,r,s,hI o,t,hI p,u,v,x,y,z,I,C,D,E,F,G,H,cH,aL,L,M,bQ,aY,P,Q,S,T,b8,Vaa,X,cy,cb,aS,eb,aw,ec,ed,ee,ef,eg,ei,ej,ek,el,bA,cd,bK,ep,er,et,bT,eu,ev,eA,eB,cw,cP,cQ,cS,aE,di,cT,cU,cx,cV,cW,bh,cX,c6,c8,c9,dd,cf,aW,b0,dg,dp,ds,cM,d0,ea,bw,a1,a2,a3,a4,bU,ci,cI,aJ,cO,fM,bp,cK,fP,cC,fT,f0,f4,cu,f5,f6,f7,ga,cN,gb,gc,gd,gf,bs,bt,gp,e2,gq,bL,bz,cz,ct,eC,eS,eT,l,m,B,U,ag,ah,ao,ap,ay,aD,aF,aK,aM,aO,e0,e1,e3,e5,e6,e7,e9,fa,fc,ff,fi,fl,fm,fo,fq,fs,fu,fv,fz,fG,fL,bb],[]⟩ W'):
  Code.wp prog (PZ 27) (Exit.then K λ_ _ _=>False) ⟨#[b,a,c,hG w.heap.size,d,f,h,i,j,k,hH ar R R,n,r,s,hI o,t,hI p,u,v,x,y,z,I,C,D,E,F,G,H,cH,aL,L,M,bQ,aY,P,Q,S,T,b8,Vaa,X,cy,cb,aS,eb,aw,ec,ed,ee,ef,eg,ei,ej,ek,el,bA,cd,bK,ep,er,et,bT,eu,ev,eA,eB,cw,cP,cQ,cS,aE,di,cT,cU,cx,cV,cW,bh,cX,c6,c8,c9,dd,cf,aW,b0,dg,dp,ds,cM,d0,ea,bw,a1,a2,a3,a4,bU,ci,cI,aJ,cO,fM,bp,cK,fP,cC,fT,f0,f4,cu,f5,f6,f7,ga,cN,gb,gc,gd,gf,bs,bt,gp,e2,gq,bL,bz,cz,ct,eC,eS,eT,aA,aI,b9,cn,cj,gv,cg,ca,b5,b3,gx,cr,ch,bE,e0,e1,e3,e5,e6,e7,e9,fa,fc,ff,fi,fl,fm,fo,fq,fs,fu,fv,fz,fG,fL,bb],[]⟩ W:=by
 have HK:V _:=O;clear O;have s0:=ad.o.l.g.c0;have ax:=ad.o.l.g.c1;have aN:=ad.o.l.g.c2;obtain⟨c7,dv,_,_,a7⟩:=ad.o.l.read xaa;cases dv;have J:=(a7 o av).c1;rw[cF]at J;have cA:=IR.cell ad.o.m o xaa;rw[aq]at cA;have ai:0<=(o:Int):=xaa;have b1:(o:Int)<us.length:=xaa;have bS:(o:Int)<R:=xaa;clear cF aq a7 az av aT;conv=>arg 2;whnf
 go_region_with (first
  |(go_at_call 32;refine yai (LK.call ad.o.l ((eF W).trans an) (eL 2 g q p 0) xaa) ?_;rintro e af ⟨aG,cap',rfl,⟨a9,bn⟩,⟨am,aC⟩,⟨al,a0⟩,aj,aH⟩;have bq:=aj 0;have br:=aj 1;have bC:=aj 2;have cB:V _:=ad.o.stq aH.o.1 aH.o.2;clear aj aH)
  |(go_at_call 34;refine yai (gQ _ _ _ _ _ _) ?_;rintro e aB ⟨rfl,an⟩;have bk:=(LG.keep ad.o ((eF W).trans an)).l.g.c0;have a8:=(LG.keep ad.o ((eF W).trans an)).l.g.c1;have p2:=(LG.keep ad.o ((eF W).trans an)).l.g.c2))
 all_goals exact HK.o _ _ _ _ _ _ _ _ _ _ _ _ _ _ _ _ _ cB
end
section
def uY (w w':World)(n1 n3:Nat)(ins outs:List Int)(M:List Vl×Int)(e:Ending):Prop:=
 ∃b1 d1 b3 d3 a2 cap,e=.returned (.tuple #[eZ b1 n1 d1 a2 M.1.length cap b3 n3 d3,.int .i64 M.2])/\w'.ownsRow w.heap.size 3 1 (.slice b1 n1 d1) n1 (ins.map (Value.int .i64))/\w'.ownsRow w.heap.size 53 6 (.slice a2 M.1.length cap) M.1.length (fQ M.1)/\w'.ownsRow w.heap.size 3 1 (.slice b3 n3 d3) n3 (outs.map (Value.int .i64))/\Apart (.slice b1 n1 d1) (.slice b3 n3 d3)
