import Derived.Test.YtaheilbiakhlgaaGreatP21
namespace Go.Proofs.Z
variable{Zp:Prop}
open Tryz Go.RowKit Flt
set_option maxRecDepth 1000000
set_option maxHeartbeats 0
section
variable{v:Vl}{w aG ag a8 W':World}{q P a6 Y af aa base aj cap cap' l h':Nat}{xs aL ins outs:List Int}{N ad Z a2':Option Addr}{R' R:Option Nat}{vs vs2:List Vl}
theorem jm{p}[Decidable p]{a b:List Vl×Int}(F:-1<=a.2)(hb:-1<=b.2):-1<=(if p then a else b).2:=by
 grind
theorem Lw(n d p q bK):-1<=(chM n d p q bK).2:=by
 unfold chM;grind
theorem MZ(i v an S ar bK)(p:-1<=an)(K:-1<=S):-1<=(mvM i v an S ar bK).2:=by
 have z:∀{l:List Vl},-1<=(l,(-1:Int)).2:=by simp
 have n:∀{l:List Vl}{m:Nat},-1<=(l,(m:Int)).2:=xaa;unfold mvM yn yo yp yq;exact jm z (jm (jm K (jm p n)) (jm (jm p (jm n n)) (jm (jm (jm z n) (jm n n)) (jm (jm (jm z n) (jm n n)) (jm (Lw _ _ _ _ _) (jm (jm z (Lw _ _ _ _ _)) (jm n n)))))))
theorem FT{j}(h:∀i,-1<=aL.getD i 0):-1<=ovs v aL q j:=by
 unfold ovs;grind
theorem xn(vs x t):∀k i,-1<=(jst vs x t k).2.getD i 0
 |0,i=>by
  unfold jst
  grind
 |k+1,i=>by
  have Q:=xn vs x t k
  unfold jst
  simp only
  rw[yah,List.getElem?_set]
  split
  ·split<;>simp_all[jmv,MZ,FT]<;>grind
  simp_all
theorem BE(vs x t):∀k i,x+k<i->i<vs.length->(jst vs x t k).2.getD i 0=-1
 |0,i,h,hi=>by
  unfold jst
  grind
 |k+1,i,h,hi=>by
  unfold jst
  simp only
  rw[yah,List.getElem?_set,hG xaa,<-yah]
  exact BE _ x t k i xaa hi
theorem FU{i y}(h:xs.getD i 0=y)(hi:i<xs.length):xs.set i y=xs:=by
 exact xit
theorem FV(vs x t k)(hi:x+1+k<vs.length)(h:∀j,j<cnt (vs.getD (x+1+k) hK).op->(jst vs x t k).2.getD (fld (vs.getD (x+1+k) hK) j).toNat 0=-1):jst vs x t (k+1)=jst vs x t k:=by
 have e:∀j,ovs _ _ _ j=-1:=λj=>by
  unfold ovs;split
  ·exact h j (by assumption)
  ·rfl
 have a0:jmv vs (x+1+k) (jst vs x t k)=([],-1):=by grind[jmv,mvM]
 conv=>lhs;unfold jst
 rw[a0];simp only[List.append_nil];grind[FU,BE]
def r6(v:Vl)(mv:List Int)(q:Nat):Bool:=(List.range q).any λj=>decide (0<=mv.getD (fld v j).toNat 0)
theorem CZ(v aL q):r6 v aL (q+1)=(r6 v aL q||decide (0<=aL.getD (fld v q).toNat 0)):=by
 simp_all[r6,List.range_succ]
theorem AG(h:r6 v aL q=false)(aQ:∀i,-1<=aL.getD i 0):∀j,j<q->aL.getD (fld v j).toNat 0=-1:=λj hj=>by
 unfold r6 at h
 grind
theorem C4(h:r6 v aL (cnt v.op)=true):¬(ovs v aL (cnt v.op) 0=-1/\ovs v aL (cnt v.op) 1=-1/\ovs v aL (cnt v.op) 2=-1):=by
 rintro⟨ai,B,U⟩;unfold r6 at h;rw[List.any_eq_true]at h;obtain⟨j,hj,G⟩:=h;have e:=List.mem_range.1 hj;grind[ovs,fld]
theorem SG.put2{m1 m3}(h:SG w P N m1 af ad m3 aj vs base R Z cap)(k:Kept 0 0 w aG)
  (own:ag.ownsRow base 40 6 (.slice a2' vs2.length cap') vs2.length (fW vs2)) (ay:(Value.slice a2' vs2.length cap').ownBlock=R') (s:StQ (λ_=>False) R aG R' ag) (an:Kept l h' ag a8) (ah:w.heap.size<=l) (C:∀g,R'=some g->g<l\/h'<=g):
  SG (fF a8 P (.slice N m1 af) (.slice a2' vs2.length cap') (.slice ad m3 aj)) P N m1 af ad m3 aj vs2 base R' a2' cap'/\StQ (λi=>i=P) R w R' (fF a8 P (.slice N m1 af) (.slice a2' vs2.length cap') (.slice ad m3 aj)):=by
 have aB:=h.lt;have b4:=k.size
 have ca:R'≠some P:=by
  rcases s.row with e|⟨r,e,av⟩
  ·rw[e];exact h.ne
  grind
 have hb:=s.chg.block P xaa (by rintro (c|c);exact c;exact h.ne c);have aN:P<ag.heap.size:=by grind
 have z:=(an.block P aN xaa).trans hb;have e:∀o,_:=λo=>(World.cell?_of_block z).trans (k.cell (p:=⟨P,o,none⟩) h.lt xaa);have j:∀o,_:=λo=>(World.frozen?_of_block z).trans (k.frozen (p:=⟨P,o,none⟩) h.lt xaa);obtain⟨bd,aR,aV⟩:=fg _ P _ _ _ ((e 0).trans h.c0) ((e 1).trans h.c1) ((e 2).trans h.c2) (.slice N m1 af) (.slice a2' vs2.length cap') (.slice ad m3 aj);have K:=fh a8 P (.slice N m1 af) (.slice a2' vs2.length cap') (.slice ad m3 aj);have f:(Value.slice a2' vs2.length cap').ownBlock≠some P:=by grind
 refine⟨⟨?_,λo=>?_,bd,aR,aV,eJ (eJ (eJ (fY own an (λg aQ=>C g (ay ▸ aQ))) f) f) f,ay,ca,?_⟩,⟨?_,?_,?_,?_,λi hi hn=>?_⟩,?_⟩
 ·have:=K.size;grind[fF]
 ·unfold fF;simp[j o,h.free o]
 ·have:=K.size;have:=s.chg.size;have:=h.sz;have:=an.size;unfold fF;omega
 ·exact K.os.trans (an.os.trans (s.chg.os.trans k.os))
 ·exact K.tape.trans (an.tape.trans (s.chg.tape.trans k.tape))
 ·exact K.output.trans (an.output.trans (s.chg.output.trans k.output))
 ·have:=K.size;have:=s.chg.size;have:=an.size;unfold fF;omega
 ·unfold fF;have aS:=s.chg.size;have bb:=an.size;rw[K.block i xaa (λc=>hn (.inl xaa)),an.block i xaa xaa,s.chg.block i xaa (by grind)];exact k.block i hi xaa
 rcases s.row with c|⟨r,c,av⟩<;>grind
theorem cR.qcv(h:Zp:=by
 have hb:v.ownBlock=some g:=hU af
 rw[s.chg.block g aQ (by simp_all)];exact aD):Zp:=h
open cR in
theorem si{e size n:Nat}{v xs W}(o:W.ownsRow base e size v n xs)(s:StQ (λi=>i=P) R W R' W')(hP:v.ownBlock≠some P)(C:∀g,v.ownBlock=some g->R≠some g):W'.ownsRow base e size v n xs:=by
 exact qcu
theorem IR.stq{W I}(h:IR W I xs)(s:StQ (λi=>i=P) R W R' W')(hP:I≠P)(C:R≠some I):IR W' I xs:=by
 unfold IR;rw[s.chg.block I h.lt (by grind)];exact h
structure LJ(w W:World)(Mb:Nat)(b1:Option Addr)(n1 e1:Nat)(b3:Option Addr)(n3 e3:Nat)(ins outs:List Int)(vs:List Vl)(mv:List Int)(base:Nat)(R:Option Nat)(a2:Option Addr)(cap:Nat):Prop where
 g:SG W w.heap.size b1 n1 e1 b3 n3 e3 vs base R a2 cap
 b:RB W (w.heap.size+1) (.slice none 0 0) (.slice none 0 0) (.slice none 0 0)
 m:IR W Mb mv
 i:W.ownsRow base 3 1 (.slice b1 n1 e1) n1 (ins.map (Value.int .i64))
 o:W.ownsRow base 3 1 (.slice b3 n3 e3) n3 (outs.map (Value.int .i64))
 k:Kept 0 0 w W
 hb:w.heap.size+1+1<=base
 dM:base<=Mb
 rM:R≠some Mb
 a1:Apart (.slice b1 n1 e1) (.slice a2 vs.length cap)
 a3:Apart (.slice b3 n3 e3) (.slice a2 vs.length cap)
 a4:Apart (.slice b1 n1 e1) (.slice b3 n3 e3)
 m1:(Value.slice b1 n1 e1).ownBlock≠some Mb
 m3:(Value.slice b3 n3 e3).ownBlock≠some Mb
theorem LJ.keep{W}(h:LJ w W a6 N Y af ad aa aj ins outs vs aL base R Z cap)(k:Kept 0 0 W W'):LJ w W' a6 N Y af ad aa aj ins outs vs aL base R Z cap:=
 {h with g:=h.g.keep k,b:=h.b.keep k,m:=h.m.keep k yaa,i:=eW h.i k,o:=eW h.o k,k:=h.k.trans k}
theorem LJ.set{W}(h:LJ w W a6 N Y af ad aa aj ins outs vs aL base R Z cap)(j r):LJ w (W.setCell ⟨a6,j,none⟩ (hF r)) a6 N Y af ad aa aj ins outs vs (aL.set j r) base R Z cap:=by
 have hP:a6≠w.heap.size:=hQ h.hb h.dM
 have F:a6≠w.heap.size+1:=hQ h.hb h.dM
 have c:∀I o,a6≠I->(W.setCell ⟨_,j,_⟩ (hF r)).cell? _=W.cell? ⟨I,o,_⟩:=λI o aT=>eN _ _ _ _ _ _ (.inl aT);obtain⟨a0,bf,aO,aX,bI,bL,bM⟩:=h.b
 exact {
  g:=⟨by simpa using h.g.lt,λo=>by simp[h.g.free o],by rw[c _ _ hP];exact h.g.c0,by rw[c _ _ hP];exact h.g.c1,by rw[c _ _ hP];exact h.g.c2,eJ h.g.own (hR h.g.row h.rM),h.g.row,h.g.ne,by simpa using h.g.sz⟩
  b:=⟨by simpa using a0,by rw[c _ _ F];exact bf,by rw[c _ _ F];exact aO,by rw[c _ _ F];exact aX,by simp[bI],by simp[bL],by simp[bM]⟩
  m:=h.m.set j r
  i:=eJ h.i h.m1
  o:=eJ h.o h.m3
  k:=nW w W h.k _ j _ (hQ h.hb h.dM)
  hb:=h.hb,dM:=h.dM,rM:=h.rM,a1:=h.a1,a3:=h.a3,a4:=h.a4,m1:=h.m1,m3:=h.m3}
theorem aU.qbi(h:Zp:=by
 exact {
  g:=aK
  b:=h.b.stq aP xaa j
  m:=h.m.stq aP (hQ h.hb h.dM) h.rM
  i:=si h.i aP ck cA
  o:=si h.o aP bO bV
  k:=Chg.kept h.k aP.chg (by
   rintro i (c|c)
   ·omega
   ·have:=(eI h.g.own (h.g.row.trans c)).1;have:=h.hb;omega)
  hb:=h.hb
  dM:=h.dM
  rM:=f _ h.m.lt h.rM
  a1:=ew
  a3:=cc
  a4:=h.a4
  m1:=h.m1
  m3:=h.m3}):Zp:=h
open aU in
theorem LJ.step{W}(h:LJ w W a6 N Y af ad aa aj ins outs vs aL base R Z cap)(k:Kept 0 0 W aG)
  (own:ag.ownsRow base 40 6 (.slice a2' vs2.length cap') vs2.length (fW vs2)) (ay:(Value.slice a2' vs2.length cap').ownBlock=R') (s:StQ (λ_=>False) R aG R' ag) (an:Kept l h' ag a8) (ah:W.heap.size<=l) (C:∀g,R'=some g->g<l\/h'<=g):
  LJ w (fF a8 w.heap.size (.slice N Y af) (.slice a2' vs2.length cap') (.slice ad aa aj)) a6 N Y af ad aa aj ins outs vs2 aL base R' a2' cap':=by
 obtain⟨aK,aP⟩:=h.g.put2 k own ay s an ah C;have bz:=k.size;exact qbh
end
section
attribute[local go_sem] eF eE eD
variable{w W':World}{xs act:List Bool}{a6 P aC af n A aj aa base cap c1 c2 c3 I:Nat}{N ad Z:Option Addr}{ins outs aL:List Int}{vs:List Vl}{R:Option Nat}
theorem LJ.read{W Y}(h:LJ w W a6 N Y af ad aa aj ins outs vs aL base R Z cap)(hn:0<vs.length):
  ∃g,Z=some ⟨g,0,none⟩/\R=some g/\g<W.heap.size/\∀j,j<vs.length->At W g (j*6) (vs.getD j hK):=by
 exact xhu
theorem cN.qcs(h:Zp:=by
 have hP:∀o,_:=λo=>bS.cell (p:=⟨w.heap.size,o,none⟩) b4 xaa
 have f:RB W' (w.heap.size+1) (.slice none 0 0) (.slice none 0 0) (.slice none 0 0):=by
  obtain⟨a0,bf,aO,aX,bI,bL,bM⟩:=C.keep k;refine RB.keep ?_ bS;exact xev
 have aS:=k.size;have bb:=K.size;subst hn
 exact {
  g:=⟨yaj b4 bS.size,λo=>by
    rw[bS.frozen b4 xaa]
    unfold fF
    simp[k.frozen (p:=⟨w.heap.size,o,none⟩) bl.sz xaa,a9 o],hR hP bd,hR hP aR,hR hP aV,p2,rfl,λc=>by grind,by
    have:=bS.size
    grind[fF]⟩
  b:=f
  m:=bn
  i:=a5
  o:=z
  k:=(Kept.new (cN.trans k) K yad).trans bS
  hb:=xaa
  dM:=by
   grind[fF]
  rM:=λc=>by
   grind[fF]
  a1:=λI B U=>aK I U B
  a3:=λI B U=>aP I U B
  a4:=b3
  m1:=λc=>by
   grind[fF]
  m3:=λc=>by
   grind[fF]}):Zp:=h
theorem cN.qfk(h:Zp:=by
 have au:∀{e size n:Nat}{v:Value}{xs:List _},aG.ownsRow ((w.alloc g).alloc fE).heap.size e size v n _->W'.ownsRow _ e _ v n xs/\(∀I,v.ownBlock=some I->w.heap.size+1+1<=I/\I<aG.heap.size):=λh=>
  ⟨eW (fY h K (λb hb=>hO ((eI h hb).1))) bS,λI aT=>hO (eI h aT)⟩
 exact qcr):Zp:=h
open cN in
theorem LJ.start{aG Y ab d1 d2 d3 g u0 u1 u2}(hn:vs.length=ab)
  (bl:G0 ((w.alloc g).alloc fE) w.heap.size u0 u1 u2) (a9:∀o,((w.alloc g).alloc fE).frozen? ⟨w.heap.size,o,none⟩=false) (C:RB ((w.alloc g).alloc fE) (w.heap.size+1) (.slice none 0 0) (.slice none 0 0) (.slice none 0 0)) (k:Kept 0 0 ((w.alloc g).alloc fE) aG)
  (bV:aG.ownsRow ((w.alloc g).alloc fE).heap.size 3 1 (.slice N Y d1) Y (ins.map (Value.int .i64))) (bO:aG.ownsRow ((w.alloc g).alloc fE).heap.size 40 6 (.slice Z ab d2) ab (fW vs)) (cc:aG.ownsRow ((w.alloc g).alloc fE).heap.size 3 1 (.slice ad aa d3) aa (outs.map (Value.int .i64)))
  (aK:Apart (.slice Z ab d2) (.slice N Y d1)) (aP:Apart (.slice Z ab d2) (.slice ad aa d3)) (b3:Apart (.slice N Y d1) (.slice ad aa d3)):
  ∀W',IR W' (fF aG w.heap.size (.slice N Y d1) (.slice Z ab d2) (.slice ad aa d3)).heap.size (List.replicate ab 0)->Kept 0 0 (fF aG w.heap.size (.slice N Y d1) (.slice Z ab d2) (.slice ad aa d3)) W'->
   LJ w W' (fF aG w.heap.size (.slice N Y d1) (.slice Z ab d2) (.slice ad aa d3)).heap.size N Y d1 ad aa d3 ins outs vs (List.replicate ab 0) ((w.alloc g).alloc fE).heap.size (Value.slice Z ab d2).ownBlock Z d2:=by
 intro W' bn bS;have bz:((w.alloc g).alloc fE).heap.size=w.heap.size+1+1:=by simp
 exact qfj
structure Oth(w:World)(Mb:Nat)(b1:Option Addr)(n1 e1:Nat)(b3:Option Addr)(n3 e3:Nat)(R:Option Nat)(B:Nat):Prop where
 p:w.heap.size+1+1<=B
 m:Mb≠B
 r:R≠some B
 i:(Value.slice b1 n1 e1).ownBlock≠some B
 o:(Value.slice b3 n3 e3).ownBlock≠some B
theorem LJ.oth{W Y}(h:LJ w W a6 N Y af ad aa aj ins outs vs aL base R Z cap)(aT:W.heap.size<=I):Oth w a6 N Y af ad aa aj R I where
 p:=hO h.b.sz
 m:=hO h.m.lt
 r:=λc=>by have:=(eI h.g.own (h.g.row.trans c)).2;omega
 i:=λc=>hO ((eI h.i c).2)
 o:=λc=>hO ((eI h.o c).2)
theorem dH.qdm(h:Zp:=by
 exact {
  g:=⟨by simpa using h.g.lt,λo=>by simp[h.g.free o],by rw[c _ _ xaa];exact h.g.c0,by rw[c _ _ xaa];exact h.g.c1,by rw[c _ _ xaa];exact h.g.c2,eJ h.g.own (hR h.g.row t.r),h.g.row,h.g.ne,by simpa using h.g.sz⟩
  b:=⟨by simpa using a0,by rw[c _ _ xaa];exact bf,by rw[c _ _ xaa];exact aO,by rw[c _ _ xaa];exact aX,by simp[bI],by simp[bL],by simp[bM]⟩
  m:=by
   unfold IR
   rw[Below.heap_setCell W _ u _ t.m]
   exact h.m
  i:=eJ h.i t.i
  o:=eJ h.o t.o
  k:=nW w W h.k I j _ xaa
  hb:=h.hb,dM:=h.dM,rM:=h.rM,a1:=h.a1,a3:=h.a3,a4:=h.a4,m1:=h.m1,m3:=h.m3}):Zp:=h
open dH in
theorem LJ.other{W Y}(h:LJ w W a6 N Y af ad aa aj ins outs vs aL base R Z cap)(t:Oth w a6 N Y af ad aa aj R I)(j u):LJ w (W.setCell ⟨I,j,none⟩ u) a6 N Y af ad aa aj ins outs vs aL base R Z cap:=by
 exact qdl
theorem ir3(w:World)(a b c):IR (w.alloc (.cells #[hF a,hF b,hF c] 3)) w.heap.size [a,b,c]:=by
 unfold IR;rw[heap_alloc_new];rfl
theorem FW(v aL q)(ao:q<3):([ovs v aL q 0,ovs v aL q 1,ovs v aL q 2]:List Int).set q (aL.getD (fld v q).toNat 0)=[ovs v aL (q+1) 0,ovs v aL (q+1) 1,ovs v aL (q+1) 2]:=by
 grind[ovs]
theorem FX(vs x t s)(h:s≠x)(ae:s<vs.length):(jst vs x t 0).2.getD s 0=-1:=by
 unfold jst;grind
theorem LJ.fin{W Y}(h:LJ w W a6 N Y af ad aa aj ins outs vs aL base R Z cap)(k:Kept 0 0 W W'):
  ((fF W' (w.heap.size+1) (.slice N Y af) (.slice Z vs.length cap) (.slice ad aa aj)).ownsRow w.heap.size 3 1 (.slice N Y af) Y (ins.map (Value.int .i64))/\(fF W' (w.heap.size+1) (.slice N Y af) (.slice Z vs.length cap) (.slice ad aa aj)).ownsRow w.heap.size 40 6 (.slice Z vs.length cap) vs.length (fW vs)/\(fF W' (w.heap.size+1) (.slice N Y af) (.slice Z vs.length cap) (.slice ad aa aj)).ownsRow w.heap.size 3 1 (.slice ad aa aj) aa (outs.map (Value.int .i64)))/\Kept 0 0 w (fF W' (w.heap.size+1) (.slice N Y af) (.slice Z vs.length cap) (.slice ad aa aj)):=by
 exact xdp
theorem LJ.call{w W ay a6 Y af aa aj base cap N ad Z ins outs aL vs R}(h:LJ w W a6 N Y af ad aa aj ins outs vs aL base R Z cap)(k:Kept 0 0 W ay)(u)(hn:vs.length<=1000000):
  Calls prog 37 #[eX N Y af Z vs.length cap ad aa aj,u.agg] ay λe ag=>∃aA cap',e=.returned (eX N Y af (some ⟨aA,0,none⟩) (vs.length+1) cap' ad aa aj)/\
   (∃u,ag.cell? ⟨w.heap.size,0,none⟩=some u)/\(∃u,ag.cell? ⟨w.heap.size,1,none⟩=some u)/\(∃u,ag.cell? ⟨w.heap.size,2,none⟩=some u)/\(∀o,ag.frozen? ⟨w.heap.size,o,none⟩=false)/\
   V (LJ w (fF ag w.heap.size (.slice N Y af) (hE aA (vs.length+1) cap') (.slice ad aa aj)) a6 N Y af ad aa aj ins outs (vs++[u]) aL base (some aA) (some ⟨aA,0,none⟩) cap'):=by
 exact xby
theorem AH{i}(h:okV ins vs i=true):0<=(vs.getD i hK).op/\(vs.getD i hK).op<=13:=by
 grind[okV,q8]
theorem AI(w a1 Z a3 Y c1 ab c2 aa c3 ins vs outs)(f:GS w a1 Y Z ab a3 aa ins vs outs)(ah:∀k,k<ab->1<=(vs.getD k hK).len/\(vs.getD k hK).len<=1000):
  Calls prog 144 #[eX a1 Y c1 Z ab c2 a3 aa c3] w λe J=>e=.returned (.bool (!kM vs))/\Kept 0 0 w J:=by
 have hn:=f.v.len;have bE:=ez 0 0 w (eZ a1 Y c1 Z ab c2 a3 aa c3);by_cases U:ab<=2000
 ·have bu:V _:=Bs _ _ _ _ _ c1 _ c2 _ c3 _ _ _ (f.keep bE) U ah;have HK:V _:=bE;have aO:((ab:Int)<=2000):=xaa;by_cases ak:fd vs<=50000
  ·have e:kM vs=false:=by grind[kM]
   rw[e];have aX:=decide_eq_true ak;exact xfk
  have e:kM vs=true:=by grind[kM]
  rw[e];have aX:=yax ak;exact xfk
 have e:kM vs=true:=by grind[kM]
 rw[e];have aO:¬((ab:Int)<=2000):=xaa;clear f ah hn e;go_enter func144,ntmps144;go_wp2;go_ret;exact⟨rfl,bE⟩
def tw(act:List Bool)(v:Vl)(k:Nat):Bool:=(List.range k).any λq=>act.getD (fld v q).toNat false
theorem C5(act v k):tw act v (k+1)=(tw act v k||act.getD (fld v k).toNat false):=by
 simp_all[tw,List.range_succ]
theorem sj{i j b}(h:j≠i):(xs.set i b).getD j false=xs.getD j false:=by
 grind
theorem yL(vs0 x):∀m i,x+m<i->(jA vs0 x m).getD i false=false
 |0,i,h=>by
  rw[jA,sj xaa,yah,List.getElem?_replicate]
  split<;>rfl
 |m+1,i,h=>by rw[jA,sj xaa,yL vs0 x m i xaa]
theorem C6{i}(h:xs.getD i false=false):xs.set i false=xs:=by
 by_cases hi:i<xs.length
 ·exact xit
 exact List.set_eq_of_length_le xaa
structure AcS(w W:World)(P g2 n A:Nat)(b1 b3:Option Addr)(n1 c1 c2 n3 c3:Nat)(vs:List Vl)(act:List Bool):Prop where
 g:G0 W P (.slice b1 n1 c1) (.slice (some ⟨g2,0,none⟩) n c2) (.slice b3 n3 c3)
 v:VA W g2 n vs
 a:BR W A act
 k:Kept 0 0 w W
 n1:P≠A
 n2:g2≠A
 l:w.heap.size<=A
theorem AcS.keep{W Y}(h:AcS w W P aC n A N ad Y c1 c2 aa c3 vs act)(k:Kept 0 0 W W'):AcS w W' P aC n A N ad Y c1 c2 aa c3 vs act:=
 ⟨h.g.keep k,VA.keep h.v k yaa,BR.keep h.a k yaa,h.k.trans k,h.n1,h.n2,h.l⟩
theorem AcS.set{W Y}(h:AcS w W P aC n A N ad Y c1 c2 aa c3 vs act)(i b):AcS w (W.setCell ⟨A,i,none⟩ (.bool b)) P aC n A N ad Y c1 c2 aa c3 vs (act.set i b):=
 have k:=od (S:=λq=>q=A) W A i (.bool b) rfl
 ⟨h.g.keepC k h.n1,h.v.keepC k h.n2,BR.set h.a i b,h.k.new (eU (lo:=A) (hi:=A+1) W ⟨A,i,none⟩ (.bool b) yac) h.l,h.n1,h.n2,h.l⟩
theorem yM(w N ad aC Y c1 n c2 aa c3 s x vs)(ak:VA w aC n vs)(ah:n<=2000)(ae:s<n)(ap:x<n)(b7:∀j,j<n->0<=(vs.getD j hK).op/\(vs.getD j hK).op<=13)(cn:∀j,j<n->∀k,k<cnt (vs.getD j hK).op->0<=fld (vs.getD j hK) k/\fld (vs.getD j hK) k<j):
  Calls prog 161 #[eX N Y c1 (some ⟨aC,0,none⟩) n c2 ad aa c3,hF s,hF x] w λe J=>∃A,e=.returned (hE A n n)/\BR J A (jA vs x (s-x))/\w.heap.size<=A/\Kept 0 0 w J:=by
 have aB:=ak.lt;have b0:V _:=ak.len;have aw:=Am n (w.alloc (eZ N Y c1 (some ⟨aC,0,none⟩) n c2 ad aa c3)) xaa;have am:=ez 0 0 w (eZ N Y c1 (some ⟨aC,0,none⟩) n c2 ad aa c3);have an:=ez 0 0 (w.alloc (eZ N Y c1 (some ⟨aC,0,none⟩) n c2 ad aa c3)) (.cells (madeCells #[.bool false] n) 4);have a2:=BR.made (w.alloc (eZ N Y c1 (some ⟨aC,0,none⟩) n c2 ad aa c3)) n;rw[show(w.alloc _).heap.size=w.heap.size+1 by simp]at a2 aw
 have aT:V (AcS w _ _ _ n _ _ _ _ _ _ _ _ _ _):=
  ⟨(fO w _ _ _).keep an,VA.keep ak (am.trans an) yaa,a2,am.trans an,by omega,by omega,by omega⟩
 have b5:V (AcS w (((w.alloc (eZ N Y c1 (some ⟨aC,0,none⟩) n c2 ad aa c3)).alloc (.cells (madeCells #[.bool false] n) 4)).setCell ⟨w.heap.size+1,x,none⟩ (.bool true)) w.heap.size aC n (w.heap.size+1) N ad Y c1 c2 aa c3 vs (jA vs x 0)):=by
  have:=aT.o.set x true;unfold jA;rw[b0.o];exact this
 have aR:=aT.o.g.q1;have f:=BR.cell aT.o.a x (by grind);have h:=BR.free aT.o.a x;generalize (List.replicate n _).getD x _=d0 at f;have cq:(0:Int)<=x:=xaa;have bX:(x:Int)<n:=xaa;have H:IntKind.i64.wrap (x+1)=x+1:=by rw[IntKind.wrap_i64];omega
 have a0:V _:=b7;have ev:V _:=cn;clear ak am an a2 aT b7 cn;generalize (w.alloc _).alloc _=ag at aw b5 aR f h;go_enter func161,ntmps161;go_wp2_with fail;clear aw aR f h;generalize ag.setCell _ _=bF at b5⊢;generalize y:w.heap.size+1=A at b5⊢;clear y;go_loopw [8] (λv W=>∃(i m:Nat),v=hF i/\i=x+1+m/\m<=s-x/\V (AcS w W w.heap.size aC n A N ad Y c1 c2 aa c3 vs (jA vs x m))) (λv _=>s+1-(intOf v).toNat)
 case atStart=>grind
 case round=>
  obtain⟨i,m,rfl,g,t,bB⟩:=hrel;clear b5;by_cases gy:i<=s
  ·have p:(0:Int)<=i:=xaa;have bf:(i:Int)<n:=xaa;have ai:(i:Int)<=s:=xaa;have cz:i<n:=xaa;obtain⟨v,aM⟩:∃v,v=vs.getD i hK:=⟨_,rfl⟩
   have b1:V _:=aM;have cw:V _:=Ft v.op (by rw[aM];exact(a0.o i cz).1) (by rw[aM];exact(a0.o i cz).2);have ei:=ev.o i cz;rw[<-aM]at ei;have fk:V _:=ei
   have ao:V (AcS w wr w.heap.size aC n A N ad Y c1 c2 aa c3 vs ((jA vs x m).set i (tw (jA vs x m) v 0))):=by
    have e:(jA _ x m).set i (tw (jA vs x m) v 0)=jA _ x m:=C6 (yL vs x m i xaa);show AcS _ _ _ _ _ _ _ _ _ _ _ _ _ _ _;rw[e];exact bB.o
   have q:V (i=x+1+m/\m<=s-x):=⟨g,t⟩
   have cW:V ((jA vs x m).length=n):=by show _=_;rw[oy,b0.o]
   have dd:V (jA vs x (m+1)=(jA vs x m).set i (tw (jA vs x m) v (cnt v.op))):=by
    show _=_;rw[jA,<-g,<-aM];rfl
   generalize jA _ x m=act at ao cW dd;have hq:IntKind.i64.wrap (i+1)=i+1:=by rw[IntKind.wrap_i64];omega
   clear bB g t aM ei;go_wp2_with fail;go_loopw [9] (λu W=>∃k:Nat,k<=cnt v.op/\u=hF k/\V (AcS w W w.heap.size aC n A N ad Y c1 c2 aa c3 vs (act.set i (tw act v k)))) (λu _=>cnt v.op-(intOf u).toNat)
   case atStart=>exact⟨0,Nat.zero_le _,rfl,ao⟩
   case round=>
    obtain⟨k,O,rfl,aU⟩:=hrel;clear ao;have aR:=aU.o.g.q1;have bm:=aU.o.v.at_ i cz;rw[<-b1.o]at bm;obtain⟨bR,aS,bb,bq,bD,bg⟩:=bm;by_cases aB:k<cnt v.op
    ·obtain⟨o,ax,gB⟩:∃o:Nat,fld v k=o/\o<i:=by
      have:=fk.o k aB;exact⟨(fld v k).toNat,by omega,by omega⟩
     have cI:=gK v.op;have c6:V (∀W,Calls _ _ _ W λe J=>e=.returned (.int _ o)/\Kept 0 0 W _):=λW=>by rw[<-ax];exact mE W v k xaa
     have f:=BR.cell aU.o.a o (by rw[List.length_set,cW.o];omega);rw[sj xaa]at f
     have B:V (tw act v (k+1)=(tw act v k||act.getD o false)):=by
      show _=_;rw[C5,ax];rfl
     have G:V _:=dd.o;have bZ:k<(cnt v.op:Int):=xaa;have bV:(0:Int)<=o:=xaa;have bO:(o:Int)<n:=xaa;have fx:IntKind.i64.wrap (k+1)=k+1:=by rw[IntKind.wrap_i64];omega
     have r:V (∀W,Kept 0 0 _ W->W.cell? _=some _):=λW bS=>by
      rw[bS.cell (p:=⟨A,o,none⟩) aU.o.a.lt xaa];exact f
     clear ax f;go_wp2_with (first|(go_at_call 42;refine yai (cw.o _) ?_;rintro e cg ⟨rfl,rfl⟩)|fail);refine yai (c6.o _) ?_;rintro e cf ⟨rfl,bT⟩;have f:=r.o _ bT;have C:V _:=aU.o.keep bT;have F:=BR.cell C.o.a i (by rw[List.length_set,cW.o];omega);have h:=BR.free C.o.a i;generalize (act.set i _).getD i _=d0 at F;clear aR bR aS bb bq bD bg bT r c6 aU;cases hb:act.getD o false
     ·rw[hb]at f
      have HR:V (AcS w cf w.heap.size aC n A N ad Y c1 c2 aa c3 vs (act.set i (tw act v (k+1)))):=by
       show AcS _ _ _ _ _ _ _ _ _ _ _ _ _ _ _;rw[B.o,hb,Bool.or_false];exact C.o
      exact xif
     rw[hb]at f
     have HR:V (AcS w (cf.setCell ⟨A,i,none⟩ (.bool true)) w.heap.size aC n A N ad Y c1 c2 aa c3 vs (act.set i (tw act v (k+1)))):=by
      have:=C.o.set i true;rw[List.set_set]at this;show AcS _ _ _ _ _ _ _ _ _ _ _ _ _ _ _;rw[B.o,hb,Bool.or_true];exact this
     exact xif
    have bZ:¬(k<(cnt v.op:Int)):=xaa;have eg:k=cnt v.op:=xaa
    have HR:V (AcS w wr w.heap.size aC n A N ad Y c1 c2 aa c3 vs (jA vs x (m+1))):=by
     show AcS _ _ _ _ _ _ _ _ _ _ _ _ _ _ _;rw[dd.o,<-eg];exact aU.o
    clear aU eg;go_wp2_with (first|(go_at_call 42;refine yai (cw.o _) ?_;rintro e cg ⟨rfl,rfl⟩)|fail);clear aR bR aS bb bq bD bg;go_roundw;exact⟨i+1,m+1,by go_num,hO q.o,hO q.o,HR⟩;simp[intOf];omega
  have z:m=s-x:=xaa;have ai:¬((i:Int)<=s):=xaa;have l:V _:=bB.o;clear bB g;go_wp2_with fail;go_ret;rw[<-z];exact⟨A,rfl,l.o.a,l.o.l,l.o.k⟩
end
section
variable{w aG W':World}{H ins outs aL:List Int}{n a6 Y A af aa aj base cap cap' I:Nat}{st:List Vl×List Int}{act:List Bool}{N ad Z a2':Option Addr}{vs vs2:List Vl}{R R':Option Nat}
structure LK(w W:World)(b1:Option Addr)(n1 e1:Nat)(b3:Option Addr)(n3 e3:Nat)(ins outs:List Int)(vs:List Vl)(base:Nat)(R:Option Nat)(a2:Option Addr)(cap:Nat):Prop where
 g:SG W w.heap.size b1 n1 e1 b3 n3 e3 vs base R a2 cap
 b:RB W (w.heap.size+1) (.slice none 0 0) (.slice none 0 0) (.slice none 0 0)
 i:W.ownsRow base 3 1 (.slice b1 n1 e1) n1 (ins.map (Value.int .i64))
 o:W.ownsRow base 3 1 (.slice b3 n3 e3) n3 (outs.map (Value.int .i64))
 k:Kept 0 0 w W
 hb:w.heap.size+1+1<=base
 a1:Apart (.slice b1 n1 e1) (.slice a2 vs.length cap)
 a3:Apart (.slice b3 n3 e3) (.slice a2 vs.length cap)
 a4:Apart (.slice b1 n1 e1) (.slice b3 n3 e3)
theorem LK.keep{W}(h:LK w W N Y af ad aa aj ins outs vs base R Z cap)(k:Kept 0 0 W W'):LK w W' N Y af ad aa aj ins outs vs base R Z cap:=
 {h with g:=h.g.keep k,b:=h.b.keep k,i:=eW h.i k,o:=eW h.o k,k:=h.k.trans k}
structure Farb(w:World)(b1:Option Addr)(n1 e1:Nat)(b3:Option Addr)(n3 e3:Nat)(R:Option Nat)(B:Nat):Prop where
 p:w.heap.size+1+1<=B
 r:R≠some B
 i:(Value.slice b1 n1 e1).ownBlock≠some B
 o:(Value.slice b3 n3 e3).ownBlock≠some B
theorem LK.far{W}(h:LK w W N Y af ad aa aj ins outs vs base R Z cap)(aT:W.heap.size<=I):Farb w N Y af ad aa aj R I where
 p:=hO h.b.sz
 r:=λc=>by have:=(eI h.g.own (h.g.row.trans c)).2;omega
 i:=λc=>hO ((eI h.i c).2)
 o:=λc=>hO ((eI h.o c).2)
theorem dI.qdm(h:Zp:=by
 exact {
  g:=⟨by simpa using h.g.lt,λo=>by simp[h.g.free o],by rw[c _ _ xaa];exact h.g.c0,by rw[c _ _ xaa];exact h.g.c1,by rw[c _ _ xaa];exact h.g.c2,eJ h.g.own (hR h.g.row t.r),h.g.row,h.g.ne,by simpa using h.g.sz⟩
  b:=⟨by simpa using a0,by rw[c _ _ xaa];exact bf,by rw[c _ _ xaa];exact aO,by rw[c _ _ xaa];exact aX,by simp[bI],by simp[bL],by simp[bM]⟩
  i:=eJ h.i t.i
  o:=eJ h.o t.o
  k:=nW w W h.k I j _ xaa
  hb:=h.hb,a1:=h.a1,a3:=h.a3,a4:=h.a4}):Zp:=h
open dI in
theorem LK.other{W}(h:LK w W N Y af ad aa aj ins outs vs base R Z cap)(t:Farb w N Y af ad aa aj R I)(j u):LK w (W.setCell ⟨I,j,none⟩ u) N Y af ad aa aj ins outs vs base R Z cap:=by
 exact qdl
theorem aV.qbi(h:Zp:=by
 exact⟨{
  g:=aK
  b:=h.b.stq aP xaa j
  i:=si h.i aP ck cA
  o:=si h.o aP bO bV
  k:=Chg.kept h.k aP.chg (by
   rintro i (c|c)
   ·omega
   ·have:=(eI h.g.own (h.g.row.trans c)).1;have:=h.hb;omega)
  hb:=h.hb
  a1:=ew
  a3:=cc
  a4:=h.a4},aP⟩):Zp:=h
open aV in
theorem LK.step{W ag a8 l h'}(h:LK w W N Y af ad aa aj ins outs vs base R Z cap)(k:Kept 0 0 W aG)
  (own:ag.ownsRow base 40 6 (.slice a2' vs2.length cap') vs2.length (fW vs2)) (ay:(Value.slice a2' vs2.length cap').ownBlock=R') (s:StQ (λ_=>False) R aG R' ag) (an:Kept l h' ag a8) (ah:W.heap.size<=l) (C:∀g,R'=some g->g<l\/h'<=g):
  LK w (fF a8 w.heap.size (.slice N Y af) (.slice a2' vs2.length cap') (.slice ad aa aj)) N Y af ad aa aj ins outs vs2 base R' a2' cap'/\StQ (λi=>i=w.heap.size) R W R' (fF a8 w.heap.size (.slice N Y af) (.slice a2' vs2.length cap') (.slice ad aa aj)):=by
 obtain⟨aK,aP⟩:=h.g.put2 k own ay s an ah C;exact qbh
theorem LK.read{W}(h:LK w W N Y af ad aa aj ins outs vs base R Z cap)(hn:0<vs.length):
  ∃g,Z=some ⟨g,0,none⟩/\R=some g/\g<W.heap.size/\∀j,j<vs.length->At W g (j*6) (vs.getD j hK):=by
 exact xhu
theorem LK.fin{W}(h:LK w W N Y af ad aa aj ins outs vs base R Z cap)(k:Kept 0 0 W W'):
  ((fF W' (w.heap.size+1) (.slice N Y af) (.slice Z vs.length cap) (.slice ad aa aj)).ownsRow w.heap.size 3 1 (.slice N Y af) Y (ins.map (Value.int .i64))/\(fF W' (w.heap.size+1) (.slice N Y af) (.slice Z vs.length cap) (.slice ad aa aj)).ownsRow w.heap.size 40 6 (.slice Z vs.length cap) vs.length (fW vs)/\(fF W' (w.heap.size+1) (.slice N Y af) (.slice Z vs.length cap) (.slice ad aa aj)).ownsRow w.heap.size 3 1 (.slice ad aa aj) aa (outs.map (Value.int .i64)))/\Kept 0 0 w (fF W' (w.heap.size+1) (.slice N Y af) (.slice Z vs.length cap) (.slice ad aa aj)):=by
 exact xdp
theorem LK.call{w W ay Y af aa aj base cap N ad Z ins outs vs R}(h:LK w W N Y af ad aa aj ins outs vs base R Z cap)(k:Kept 0 0 W ay)(u)(hn:vs.length<=1000000):
  Calls prog 37 #[eX N Y af Z vs.length cap ad aa aj,u.agg] ay λe ag=>∃aA cap',e=.returned (eX N Y af (some ⟨aA,0,none⟩) (vs.length+1) cap' ad aa aj)/\
   (∃u,ag.cell? ⟨w.heap.size,0,none⟩=some u)/\(∃u,ag.cell? ⟨w.heap.size,1,none⟩=some u)/\(∃u,ag.cell? ⟨w.heap.size,2,none⟩=some u)/\(∀o,ag.frozen? ⟨w.heap.size,o,none⟩=false)/\
   V (LK w (fF ag w.heap.size (.slice N Y af) (hE aA (vs.length+1) cap') (.slice ad aa aj)) N Y af ad aa aj ins outs (vs++[u]) base (some aA) (some ⟨aA,0,none⟩) cap'/\StQ (λi=>i=w.heap.size) R W (some aA) (fF ag w.heap.size (.slice N Y af) (hE aA (vs.length+1) cap') (.slice ad aa aj))):=by
 exact xby
structure LG(w W:World)(Mb A:Nat)(b1:Option Addr)(n1 e1:Nat)(b3:Option Addr)(n3 e3:Nat)(ins outs:List Int)(vs:List Vl)(mv:List Int)(act:List Bool)(base:Nat)(R:Option Nat)(a2:Option Addr)(cap:Nat):Prop where
 l:LK w W b1 n1 e1 b3 n3 e3 ins outs vs base R a2 cap
 m:IR W Mb mv
 a:BR W A act
 fm:Farb w b1 n1 e1 b3 n3 e3 R Mb
 fa:Farb w b1 n1 e1 b3 n3 e3 R A
 ne:Mb≠A
theorem LG.keep{W}(h:LG w W a6 A N Y af ad aa aj ins outs vs aL act base R Z cap)(k:Kept 0 0 W W'):LG w W' a6 A N Y af ad aa aj ins outs vs aL act base R Z cap:=
 ⟨h.l.keep k,h.m.keep k yaa,h.a.keep k yaa,h.fm,h.fa,h.ne⟩
theorem LG.set{W}(h:LG w W a6 A N Y af ad aa aj ins outs vs aL act base R Z cap)(j r):LG w (W.setCell ⟨a6,j,none⟩ (hF r)) a6 A N Y af ad aa aj ins outs vs (aL.set j r) act base R Z cap:=
 ⟨h.l.other h.fm j _,h.m.set j r,h.a.keepC (od (S:=λq=>q=a6) W a6 j (hF r) rfl) (λe=>h.ne e.symm),h.fm,h.fa,h.ne⟩
theorem LG.stq{W}(h:LG w W a6 A N Y af ad aa aj ins outs vs aL act base R Z cap)(l:LK w W' N Y af ad aa aj ins outs vs2 base R' a2' cap')(q:StQ (λi=>i=w.heap.size) R W R' W'):LG w W' a6 A N Y af ad aa aj ins outs vs2 aL act base R' a2' cap':=by
 have f:∀{I},I<W.heap.size->Farb w N Y af _ _ _ R I->Farb w _ _ _ ad aa aj R' I:=λaT t=>⟨t.p,by
  rcases q.row with e|⟨r,e,av⟩
  ·rw[e];exact t.r
  grind,t.i,t.o⟩
 refine⟨l,h.m.stq q (hO h.fm.p) h.fm.r,h.a.keepC q.chg ?_,f h.m.lt h.fm,f h.a.lt h.fa,h.ne⟩;rintro (c|c)
 ·have:=h.fa.p;omega
 exact h.fa.r c
def gdn(vs:List Vl)(act:List Bool)(s:Nat):Nat->List Vl×List Int
 |0=>xi vs s
 |j+1=>giM vs act (s-j) (gdn vs act s j)
theorem tz(vs act s x):∀k,k<=s-x->yK vs act x (xi vs s) ((List.range k).map (λi=>(s-x)-1-i))=gdn vs act s k
 |0,_=>rfl
 |k+1,h=>by
  rw[List.range_succ,List.map_append,List.map_cons,List.map_nil,AF,tz _ _ s x k xaa,gdn]
  grind
def xo(n:Nat)(act:List Bool)(sl:List Int):Prop:=∀q,q<n->sl.getD q 0=-1\/(0<=sl.getD q 0/\act.getD q false=true)
theorem M0{p}[Decidable p]{a b:List Vl×Int}(F:0<=a.2)(hb:0<=b.2):0<=(if p then a else b).2:=by grind
theorem M6(i v P k d bK)(G:0<=d):0<=(nF i v P k d bK).2:=by
 unfold nF;repeat' (apply M0)
 all_goals omega
theorem yN{o p}(h:xo n act H)(ah:H.length=n)(aF:0<=p)(F:act.getD o false=true):xo n act (H.set o p):=λq ao=>by
 rw[yah,List.getElem?_set]
 by_cases e:o=q
 ·simp_all
 ·rw[hG e,<-yah]
  exact h q ao
theorem JF{i k}(h:xo n act st.2)(ah:st.2.length=n)(G:0<=st.2.getD i 0):xo n act (gkM vs act i k st).2:=by
 grind[gkM,mK,yN,M6]
theorem C7{o i p}(h:o≠i):(mK vs o p st).2.getD i 0=st.2.getD i 0:=by
 unfold mK;grind
theorem JG{i k}(h:(fld (vs.getD i hK) k).toNat≠i):(gkM vs act i k st).2.getD i 0=st.2.getD i 0:=by
 grind[gkM,C7]
theorem tA{vs act i st}:∀k,(∀q,q<k->(fld (vs.getD i hK) q).toNat≠i)->(ki vs act i st k).2.getD i 0=st.2.getD i 0
 |0,_=>rfl
 |k+1,h=>by rw[ki,JG (h k yae),tA k (λq ao=>h q xaa)]
theorem tC{vs act n i st}(h:xo n act st.2)(ah:st.2.length=n)(G:0<=st.2.getD i 0):∀k,(∀q,q<k->(fld (vs.getD i hK) q).toNat≠i)->xo n act (ki vs act i st k).2
 |0,_=>h
 |k+1,a9=>JF (tC h ah G k (λq ao=>a9 q xaa)) (by rw[qE];exact ah) (by grind[tA])
theorem JH{i}(h:xo n act st.2)(ah:st.2.length=n)(hi:i<n)(a9:∀q,q<cnt (vs.getD i hK).op->(fld (vs.getD i hK) q).toNat≠i):xo n act (giM vs act i st).2:=by
 unfold giM;split
 ·exact h
 rename_i ak;exact tC h ah (by rcases h i hi with c|c<;>grind) _ a9
structure GdI(vs:List Vl)(act:List Bool)(n:Nat)(L:Nat)(C:Int)(st:List Vl×List Int):Prop where
 i:xo n act st.2
 l:st.2.length=n
 p:Pre vs st.1
 z:SzU L C st.1
theorem BF{vs act n s}(hn:vs.length=n)(ae:s<n)(bz:SzU 2000 50000 vs)(bQ:LnB vs)(F:act.getD s false=true)(a9:∀i,i<n->∀q,q<cnt (vs.getD i hK).op->(fld (vs.getD i hK) q).toNat≠i):∀j,j<=s->GdI vs act n (2001+12*j) (51000+12000*(j:Int)) (gdn vs act s j)
 |0,_=>by
  refine⟨?_,by simp[gdn,xi,hn],⟨_,rfl⟩,?_⟩
  ·refine yN (λq ao=>.inl ?_) (by grind) xaa F
   simp_all
  ·exact(SzU.app (L':=1) (C':=1000) bz ⟨by simp,by simp[fd],by simp[fd]⟩).mono xaa xaa
 |j+1,h=>by
  have al:=BF hn ae bz bQ F a9 j xaa
  exact⟨JH al.i al.l xaa (a9 _ xaa),by rw[gdn,JE];exact al.l,JD al.p,(MX bQ al.z).mono xaa xaa⟩
theorem m8{s q}(h:q<=s):(H.take (s+1)).getD q 0=H.getD q 0:=by
 grind
theorem rn(H:List Int)(s o p):(H.take (s+1)).set o p=(H.set o p).take (s+1):=List.take_set.symm
theorem C8(vs s)(ae:s<vs.length):(List.replicate (s+1) (-1:Int)).set s (vs.length:Nat)=(xi vs s).2.take (s+1):=by
 unfold xi;simp only;rw[<-rn,List.take_replicate,show min (s+1) vs.length=s+1 by omega]
theorem cO.qcs(h:Zp:=by
 have f:RB (fF aG w.heap.size (.slice N Y d1) (.slice Z ab d2) (.slice ad aa d3)) (w.heap.size+1) (.slice none 0 0) (.slice none 0 0) (.slice none 0 0):=by
  obtain⟨a0,bf,aO,aX,bI,bL,bM⟩:=C.keep k;exact xev
 have bb:=K.size;subst hn
 exact {
  g:=⟨b4,λo=>by
    unfold fF
    simp[k.frozen (p:=⟨w.heap.size,o,none⟩) bl.sz xaa,a9 o],bd,aR,aV,p2,rfl,λc=>by grind,yan cB bb⟩
  b:=f
  i:=a5
  o:=z
  k:=Kept.new (cN.trans k) K yad
  hb:=ei
  a1:=λI B U=>aK I U B
  a3:=λI B U=>aP I U B
  a4:=b3}):Zp:=h
theorem cO.qfk(h:Zp:=by
 have au:∀{e size n:Nat}{v:Value}{xs:List _},aG.ownsRow base e _ v n xs->(fF aG _ _ _ _).ownsRow _ e size v n _/\(∀I,v.ownBlock=some I->w.heap.size+1+1<=I/\I<aG.heap.size):=λh=>
  ⟨fY h K (λb hb=>hO ((eI h hb).1)),λI aT=>hO (eI h aT)⟩
 exact qcr):Zp:=h
open cO in
theorem LK.start{ab d1 d2 d3 g u0 u1 u2}(hn:vs.length=ab)
  (bl:G0 ((w.alloc g).alloc fE) w.heap.size u0 u1 u2) (a9:∀o,((w.alloc g).alloc fE).frozen? ⟨w.heap.size,o,none⟩=false) (C:RB ((w.alloc g).alloc fE) (w.heap.size+1) (.slice none 0 0) (.slice none 0 0) (.slice none 0 0)) (k:Kept 0 0 ((w.alloc g).alloc fE) aG) (ei:w.heap.size+1+1<=base) (cB:base<=aG.heap.size)
  (bV:aG.ownsRow base 3 1 (.slice N Y d1) Y (ins.map (Value.int .i64))) (bO:aG.ownsRow base 40 6 (.slice Z ab d2) ab (fW vs)) (cc:aG.ownsRow base 3 1 (.slice ad aa d3) aa (outs.map (Value.int .i64)))
  (aK:Apart (.slice Z ab d2) (.slice N Y d1)) (aP:Apart (.slice Z ab d2) (.slice ad aa d3)) (b3:Apart (.slice N Y d1) (.slice ad aa d3)):
  LK w (fF aG w.heap.size (.slice N Y d1) (.slice Z ab d2) (.slice ad aa d3)) N Y d1 ad aa d3 ins outs vs base (Value.slice Z ab d2).ownBlock Z d2:=by
 exact qfj
end
section
attribute[local go_sem] eF eE eD
noncomputable abbrev PR (n:Nat):Code:=(Tryz.f156.body.bind (pz n)).getD .skip
theorem M7{w W a6 A Y af aa aj base cap bx U o N ad ins outs aL act us R p q g K b a c d f h i j k n r s t u v x y z I C D E F G H b1 ah L M bK au P Q S T bD Vaa X bw cj aT cT aM cU cV cW cX c6 c7 dp bF ds aP aV bJ dv d0 eb bq ec b7 ed ee co ch cq ct aE dd cu cw cc cz cB bC cD cG cI cJ cK a7 aQ bz cN cO cQ cF cR cS br a1 Z a3 a4 bS cx b6 aS ca fc aK c8 ff fi fj fk fl bN fm fo fq fs di fu fv fx fy bs bt fz e6 fG bI a0 ci cg ef ei ej aD an bE bY ce fM bH bu b2 bT f0 f4 ck aC ek el en ep er et eu ev ew eB eC eS eT e0 e1 e2 e3 e5 e7 e9 fa a9}(ae:V (LG w W a6 A N Y af ad aa aj ins outs us aL act base R (some ⟨bx,0,none⟩) cap))(aH:us.length<=900000)(ax:o<us.length)(aU:o<U)(aw:aL.length=U)(cA:(us.getD o hK).len=g)(ao:aL.getD o 0=q)
  (O:∀(W':World) (aA cap':Nat) (l m B ab al ap av ay aB aF aI aJ aO aR:Value),V (LG w W' a6 A N Y af ad aa aj ins outs (us++[eK 2 g q p 0]) aL act base (some aA) (some ⟨aA,0,none⟩) cap')->K ⟨#[b,a,c,hD w.heap.size,d,f,h,i,j,k,hE a6 U U,n,r,s,hF o,t,hF p,u,v,x,y,z,I,C,D,E,F,G,H,b1,ah,L,M,bK,au,P,Q,S,T,bD,Vaa,X,bw,cj,aT,cT,aM,cU,cV,cW,cX,c6,c7,dp,bF,ds,aP,aV,bJ,dv,d0,eb,bq,ec,b7,ed,ee,co,ch,cq,ct,aE,dd,cu,cw,cc,cz,cB,bC,cD,cG,cI,cJ,cK,a7,aQ,bz,cN,cO,cQ,cF,cR,cS,br,a1,Z,a3,a4,bS,cx,b6,aS,ca,fc,aK,c8,ff,fi,fj,fk,fl,bN,fm,fo,fq,fs,di,fu,fv,fx,fy,bs,bt,fz,e6,fG,bI,a0,ci,cg,ef,ei,ej,l,m,B,ab,al,ap,av,ay,aB,aF,aI,aJ,aO,aR,ek,el,en,ep,er,et,eu,ev,ew,eB,eC,eS,eT,e0,e1,e2,e3,e5,e7,e9,fa,a9],[]⟩ W'):
  Code.wp prog (PR 27) (Exit.then K λ_ _ _=>False) ⟨#[b,a,c,hD w.heap.size,d,f,h,i,j,k,hE a6 U U,n,r,s,hF o,t,hF p,u,v,x,y,z,I,C,D,E,F,G,H,b1,ah,L,M,bK,au,P,Q,S,T,bD,Vaa,X,bw,cj,aT,cT,aM,cU,cV,cW,cX,c6,c7,dp,bF,ds,aP,aV,bJ,dv,d0,eb,bq,ec,b7,ed,ee,co,ch,cq,ct,aE,dd,cu,cw,cc,cz,cB,bC,cD,cG,cI,cJ,cK,a7,aQ,bz,cN,cO,cQ,cF,cR,cS,br,a1,Z,a3,a4,bS,cx,b6,aS,ca,fc,aK,c8,ff,fi,fj,fk,fl,bN,fm,fo,fq,fs,di,fu,fv,fx,fy,bs,bt,fz,e6,fG,bI,a0,ci,cg,ef,ei,ej,aD,an,bE,bY,ce,fM,bH,bu,b2,bT,f0,f4,ck,aC,ek,el,en,ep,er,et,eu,ev,ew,eB,eC,eS,eT,e0,e1,e2,e3,e5,e7,e9,fa,a9],[]⟩ W:=by
 have HK:V _:=O;clear O;have aW:=ae.o.l.g.c0;have aq:=ae.o.l.g.c1;have aN:=ae.o.l.g.c2;obtain⟨dg,ea,_,_,a2⟩:=ae.o.l.read xaa;cases ea;have J:=(a2 o ax).c1;rw[cA]at J;have cy:=IR.cell ae.o.m o xaa;rw[ao]at cy;have ak:0<=(o:Int):=xaa;have bV:(o:Int)<us.length:=xaa;have bO:(o:Int)<U:=xaa;clear cA ao a2 aw ax aU;conv=>arg 2;whnf
 go_region_with (first
  |(go_at_call 37;refine yai (LK.call ae.o.l ((eG W).trans am) (eK 2 g q p 0) xaa) ?_;rintro e ag ⟨aA,cap',rfl,⟨u0,bo⟩,⟨u1,az⟩,⟨u2,aZ⟩,ai,ar⟩;have bl:=ai 0;have bG:=ai 1;have bP:=ai 2;have cr:V _:=ae.o.stq ar.o.1 ar.o.2;clear ai ar)
  |(go_at_call 39;refine yai (gS _ _ _ _ _ _) ?_;rintro e aG ⟨rfl,am⟩;have bi:=(LG.keep ae.o ((eG W).trans am)).l.g.c0;have a5:=(LG.keep ae.o ((eG W).trans am)).l.g.c1;have p2:=(LG.keep ae.o ((eG W).trans am)).l.g.c2))
 all_goals exact HK.o _ _ _ _ _ _ _ _ _ _ _ _ _ _ _ _ _ cr
