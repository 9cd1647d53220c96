import Derived.Test.YtcjhlkdleojbjaaGreatP20
namespace Go.Proofs.Z
variable{Zp:Prop}
open Tryz Go.RowKit Flt
set_option maxRecDepth 1000000
set_option maxHeartbeats 0
section
variable{v:Vl}{w aA ag aF I:World}{q P a6 Z ae ab base ai cap cap' l h':Nat}{xs ao ins outs:List Int}{R aa U a2':Option Addr}{R' H:Option Nat}{vs vs2:List Vl}
theorem iZ{p}[Decidable p]{a b:List Vl×Int}(ar:-1<=a.2)(hb:-1<=b.2):-1<=(if p then a else b).2:=by
 grind
theorem M0(n d p q aV):-1<=(chM n d p q aV).2:=by
 unfold chM;grind
theorem N4(i v aI ak aW aV)(g:-1<=aI)(aj:-1<=ak):-1<=(mvM i v aI ak aW aV).2:=by
 have z:∀{l:List Vl},-1<=(l,(-1:Int)).2:=by simp
 have n:∀{l:List Vl}{m:Nat},-1<=(l,(m:Int)).2:=xaa;unfold mvM yJ yK yL yM;exact iZ z (iZ (iZ aj (iZ g n)) (iZ (iZ g (iZ n n)) (iZ (iZ (iZ z n) (iZ n n)) (iZ (iZ (iZ z n) (iZ n n)) (iZ (M0 _ _ _ _ _) (iZ (iZ z (M0 _ _ _ _ _)) (iZ n n)))))))
theorem G6{j}(h:∀i,-1<=ao.getD i 0):-1<=ovs v ao q j:=by
 unfold ovs;grind
theorem xN(vs x t):∀k i,-1<=(jst vs x t k).2.getD i 0
 |0,i=>by
  unfold jst
  grind
 |k+1,i=>by
  have al:=xN vs x t k
  unfold jst
  simp only
  rw[yai,List.getElem?_set]
  split
  ·split<;>simp_all[jmv,N4,G6]<;>grind
  simp_all
theorem Cs(vs x t):∀k i,x+k<i->i<vs.length->(jst vs x t k).2.getD i 0=-1
 |0,i,h,hi=>by
  unfold jst
  grind
 |k+1,i,h,hi=>by
  unfold jst
  simp only
  rw[yai,List.getElem?_set,hC xaa,<-yai]
  exact Cs _ x t k i xaa hi
theorem G7{i y}(h:xs.getD i 0=y)(hi:i<xs.length):xs.set i y=xs:=by
 exact xhd
theorem G8(vs x t k)(hi:x+1+k<vs.length)(h:∀j,j<cnt (vs.getD (x+1+k) hF).op->(jst vs x t k).2.getD (fld (vs.getD (x+1+k) hF) j).toNat 0=-1):jst vs x t (k+1)=jst vs x t k:=by
 have e:∀j,ovs _ _ _ j=-1:=λj=>by
  unfold ovs;split
  ·exact h j (by assumption)
  ·rfl
 have a9:jmv vs (x+1+k) (jst vs x t k)=([],-1):=by grind[jmv,mvM]
 conv=>lhs;unfold jst
 rw[a9];simp only[List.append_nil];grind[G7,Cs]
def sf(v:Vl)(mv:List Int)(q:Nat):Bool:=(List.range q).any λj=>decide (0<=mv.getD (fld v j).toNat 0)
theorem Eh(v ao q):sf v ao (q+1)=(sf v ao q||decide (0<=ao.getD (fld v q).toNat 0)):=by
 simp_all[sf,List.range_succ]
theorem Bq(h:sf v ao q=false)(aJ:∀i,-1<=ao.getD i 0):∀j,j<q->ao.getD (fld v j).toNat 0=-1:=λj hj=>by
 unfold sf at h
 grind
theorem Ei(h:sf v ao (cnt v.op)=true):¬(ovs v ao (cnt v.op) 0=-1/\ovs v ao (cnt v.op) 1=-1/\ovs v ao (cnt v.op) 2=-1):=by
 rintro⟨al,F,N⟩;unfold sf at h;rw[List.any_eq_true]at h;obtain⟨j,hj,aK⟩:=h;have m:=List.mem_range.1 hj;grind[ovs,fld]
theorem SG.put2{m1 m3}(h:SG w P R m1 ae aa m3 ai vs base H U cap)(k:Kept 0 0 w aA)
  (own:ag.ownsRow base 62 6 (.slice a2' vs2.length cap') vs2.length (fF vs2)) (z:(Value.slice a2' vs2.length cap').ownBlock=R') (s:StQ (λ_=>False) H aA R' ag) (ak:Kept l h' ag aF) (af:w.heap.size<=l) (K:∀g,R'=some g->g<l\/h'<=g):
  SG (fw aF P (.slice R m1 ae) (.slice a2' vs2.length cap') (.slice aa m3 ai)) P R m1 ae aa m3 ai vs2 base R' a2' cap'/\StQ (λi=>i=P) H w R' (fw aF P (.slice R m1 ae) (.slice a2' vs2.length cap') (.slice aa m3 ai)):=by
 have aG:=h.lt;have bX:=k.size
 have bL:R'≠some P:=by
  rcases s.row with e|⟨r,e,aD⟩
  ·rw[e];exact h.ne
  grind
 have hb:=s.chg.block P xaa (by rintro (c|c);exact c;exact h.ne c);have cc:P<ag.heap.size:=by grind
 have aw:=(ak.block P cc xaa).trans hb;have e:∀o,_:=λo=>(World.cell?_of_block aw).trans (k.cell (p:=⟨P,o,none⟩) h.lt xaa);have j:∀o,_:=λo=>(World.frozen?_of_block aw).trans (k.frozen (p:=⟨P,o,none⟩) h.lt xaa);obtain⟨ba,aP,y2⟩:=fp _ P _ _ _ ((e 0).trans h.c0) ((e 1).trans h.c1) ((e 2).trans h.c2) (.slice R m1 ae) (.slice a2' vs2.length cap') (.slice aa m3 ai);have S:=ft aF P (.slice R m1 ae) (.slice a2' vs2.length cap') (.slice aa m3 ai);have f:(Value.slice a2' vs2.length cap').ownBlock≠some P:=by grind
 refine⟨⟨?_,λo=>?_,ba,aP,y2,eI (eI (eI (f9 own ak (λg aJ=>K g (z ▸ aJ))) f) f) f,z,bL,?_⟩,⟨?_,?_,?_,?_,λi hi ad=>?_⟩,?_⟩
 ·have:=S.size;grind[fw]
 ·unfold fw;simp[j o,h.free o]
 ·have:=S.size;have:=s.chg.size;have:=h.sz;have:=ak.size;unfold fw;omega
 ·exact S.os.trans (ak.os.trans (s.chg.os.trans k.os))
 ·exact S.tape.trans (ak.tape.trans (s.chg.tape.trans k.tape))
 ·exact S.output.trans (ak.output.trans (s.chg.output.trans k.output))
 ·have:=S.size;have:=s.chg.size;have:=ak.size;unfold fw;omega
 ·unfold fw;have aQ:=s.chg.size;have a8:=ak.size;rw[S.block i xaa (λc=>ad (.inl xaa)),ak.block i xaa xaa,s.chg.block i xaa (by grind)];exact k.block i hi xaa
 rcases s.row with c|⟨r,c,aD⟩<;>grind
theorem bM.qcj(h:Zp:=by
 have hb:v.ownBlock=some g:=hO ae
 rw[s.chg.block g aJ (by simp_all)];exact aS):Zp:=h
open bM in
theorem sD{e size n:Nat}{v xs W}(o:W.ownsRow base e size v n xs)(s:StQ (λi=>i=P) H W R' I)(hP:v.ownBlock≠some P)(K:∀g,v.ownBlock=some g->H≠some g):I.ownsRow base e size v n xs:=by
 exact qci
theorem IR.stq{W J}(h:IR W J xs)(s:StQ (λi=>i=P) H W R' I)(hP:J≠P)(K:H≠some J):IR I J xs:=by
 unfold IR;rw[s.chg.block J h.lt (by grind)];exact h
structure LJ(w W:World)(Mb:Nat)(b1:Option Addr)(n1 e1:Nat)(b3:Option Addr)(n3 e3:Nat)(ins outs:List Int)(vs:List Vl)(mv:List Int)(base:Nat)(R:Option Nat)(a2:Option Addr)(cap:Nat):Prop where
 g:SG W w.heap.size b1 n1 e1 b3 n3 e3 vs base R a2 cap
 b:RB W (w.heap.size+1) (.slice none 0 0) (.slice none 0 0) (.slice none 0 0)
 m:IR W Mb mv
 i:W.ownsRow base 3 1 (.slice b1 n1 e1) n1 (ins.map (Value.int .i64))
 o:W.ownsRow base 3 1 (.slice b3 n3 e3) n3 (outs.map (Value.int .i64))
 k:Kept 0 0 w W
 hb:w.heap.size+1+1<=base
 dM:base<=Mb
 rM:R≠some Mb
 a1:Apart (.slice b1 n1 e1) (.slice a2 vs.length cap)
 a3:Apart (.slice b3 n3 e3) (.slice a2 vs.length cap)
 a4:Apart (.slice b1 n1 e1) (.slice b3 n3 e3)
 m1:(Value.slice b1 n1 e1).ownBlock≠some Mb
 m3:(Value.slice b3 n3 e3).ownBlock≠some Mb
theorem LJ.keep{W}(h:LJ w W a6 R Z ae aa ab ai ins outs vs ao base H U cap)(k:Kept 0 0 W I):LJ w I a6 R Z ae aa ab ai ins outs vs ao base H U cap:=
 {h with g:=h.g.keep k,b:=h.b.keep k,m:=h.m.keep k yaa,i:=eO h.i k,o:=eO h.o k,k:=h.k.trans k}
theorem LJ.set{W}(h:LJ w W a6 R Z ae aa ab ai ins outs vs ao base H U cap)(j r):LJ w (W.setCell ⟨a6,j,none⟩ (hA r)) a6 R Z ae aa ab ai ins outs vs (ao.set j r) base H U cap:=by
 have hP:a6≠w.heap.size:=hK h.hb h.dM
 have K:a6≠w.heap.size+1:=hK h.hb h.dM
 have c:∀J o,a6≠J->(W.setCell ⟨_,j,_⟩ (hA r)).cell? _=W.cell? ⟨J,o,_⟩:=λJ o aT=>eQ _ _ _ _ _ _ (.inl aT);obtain⟨aO,bn,aX,bb,bz,bo,bw⟩:=h.b
 exact {
  g:=⟨by simpa using h.g.lt,λo=>by simp[h.g.free o],by rw[c _ _ hP];exact h.g.c0,by rw[c _ _ hP];exact h.g.c1,by rw[c _ _ hP];exact h.g.c2,eI h.g.own (hL h.g.row h.rM),h.g.row,h.g.ne,by simpa using h.g.sz⟩
  b:=⟨by simpa using aO,by rw[c _ _ K];exact bn,by rw[c _ _ K];exact aX,by rw[c _ _ K];exact bb,by simp[bz],by simp[bo],by simp[bw]⟩
  m:=h.m.set j r
  i:=eI h.i h.m1
  o:=eI h.o h.m3
  k:=pY w W h.k _ j _ (hK h.hb h.dM)
  hb:=h.hb,dM:=h.dM,rM:=h.rM,a1:=h.a1,a3:=h.a3,a4:=h.a4,m1:=h.m1,m3:=h.m3}
theorem Y.qbc(h:Zp:=by
 exact {
  g:=aC
  b:=h.b.stq aL xaa j
  m:=h.m.stq aL (hK h.hb h.dM) h.rM
  i:=sD h.i aL bO ch
  o:=sD h.o aL bT cn
  k:=Chg.kept h.k aL.chg (by
   rintro i (c|c)
   ·omega
   ·have:=(eH h.g.own (h.g.row.trans c)).1;have:=h.hb;omega)
  hb:=h.hb
  dM:=h.dM
  rM:=f _ h.m.lt h.rM
  a1:=d6
  a3:=bj
  a4:=h.a4
  m1:=h.m1
  m3:=h.m3}):Zp:=h
open Y in
theorem LJ.step{W}(h:LJ w W a6 R Z ae aa ab ai ins outs vs ao base H U cap)(k:Kept 0 0 W aA)
  (own:ag.ownsRow base 62 6 (.slice a2' vs2.length cap') vs2.length (fF vs2)) (z:(Value.slice a2' vs2.length cap').ownBlock=R') (s:StQ (λ_=>False) H aA R' ag) (ak:Kept l h' ag aF) (af:W.heap.size<=l) (K:∀g,R'=some g->g<l\/h'<=g):
  LJ w (fw aF w.heap.size (.slice R Z ae) (.slice a2' vs2.length cap') (.slice aa ab ai)) a6 R Z ae aa ab ai ins outs vs2 ao base R' a2' cap':=by
 obtain⟨aC,aL⟩:=h.g.put2 k own z s ak af K;have bv:=k.size;exact qbb
end
section
attribute[local go_sem] eF eE eD
variable{w I:World}{xs act:List Bool}{a6 P aN ae n A ai ab base cap c1 c2 c3 J:Nat}{R aa U:Option Addr}{ins outs ao:List Int}{vs:List Vl}{H:Option Nat}
theorem LJ.read{W Z}(h:LJ w W a6 R Z ae aa ab ai ins outs vs ao base H U cap)(ad:0<vs.length):
  ∃g,U=some ⟨g,0,none⟩/\H=some g/\g<W.heap.size/\∀j,j<vs.length->At W g (j*6) (vs.getD j hF):=by
 exact xgd
theorem bI.qch(h:Zp:=by
 have hP:∀o,_:=λo=>bJ.cell (p:=⟨w.heap.size,o,none⟩) bX xaa
 have f:RB I (w.heap.size+1) (.slice none 0 0) (.slice none 0 0) (.slice none 0 0):=by
  obtain⟨aO,bn,aX,bb,bz,bo,bw⟩:=K.keep k;refine RB.keep ?_ bJ;exact xdf
 have aQ:=k.size;have a8:=S.size;subst ad
 exact {
  g:=⟨yak bX bJ.size,λo=>by
    rw[bJ.frozen bX xaa]
    unfold fw
    simp[k.frozen (p:=⟨w.heap.size,o,none⟩) bg.sz xaa,a5 o],hL hP ba,hL hP aP,hL hP y2,p2,rfl,λc=>by grind,by
    have:=bJ.size
    grind[fw]⟩
  b:=f
  m:=aM
  i:=bu
  o:=z
  k:=(Kept.new (cN.trans k) S yad).trans bJ
  hb:=xaa
  dM:=by
   grind[fw]
  rM:=λc=>by
   grind[fw]
  a1:=λJ F N=>aC J N F
  a3:=λJ F N=>aL J N F
  a4:=b1
  m1:=λc=>by
   grind[fw]
  m3:=λc=>by
   grind[fw]}):Zp:=h
theorem bI.qek(h:Zp:=by
 have aB:∀{e size n:Nat}{v:Value}{xs:List _},aA.ownsRow ((w.alloc g).alloc fJ).heap.size e size v n _->I.ownsRow _ e _ v n xs/\(∀J,v.ownBlock=some J->w.heap.size+1+1<=J/\J<aA.heap.size):=λh=>
  ⟨eO (f9 h S (λb hb=>hJ ((eH h hb).1))) bJ,λJ aT=>hJ (eH h aT)⟩
 exact qcg):Zp:=h
open bI in
theorem LJ.start{aA Z n2 aH bf Y g u0 u1 u2}(ad:vs.length=n2)
  (bg:G0 ((w.alloc g).alloc fJ) w.heap.size u0 u1 u2) (a5:∀o,((w.alloc g).alloc fJ).frozen? ⟨w.heap.size,o,none⟩=false) (K:RB ((w.alloc g).alloc fJ) (w.heap.size+1) (.slice none 0 0) (.slice none 0 0) (.slice none 0 0)) (k:Kept 0 0 ((w.alloc g).alloc fJ) aA)
  (cn:aA.ownsRow ((w.alloc g).alloc fJ).heap.size 3 1 (.slice R Z aH) Z (ins.map (Value.int .i64))) (bT:aA.ownsRow ((w.alloc g).alloc fJ).heap.size 62 6 (.slice U n2 bf) n2 (fF vs)) (bj:aA.ownsRow ((w.alloc g).alloc fJ).heap.size 3 1 (.slice aa ab Y) ab (outs.map (Value.int .i64)))
  (aC:Apart (.slice U n2 bf) (.slice R Z aH)) (aL:Apart (.slice U n2 bf) (.slice aa ab Y)) (b1:Apart (.slice R Z aH) (.slice aa ab Y)):
  ∀I,IR I (fw aA w.heap.size (.slice R Z aH) (.slice U n2 bf) (.slice aa ab Y)).heap.size (List.replicate n2 0)->Kept 0 0 (fw aA w.heap.size (.slice R Z aH) (.slice U n2 bf) (.slice aa ab Y)) I->
   LJ w I (fw aA w.heap.size (.slice R Z aH) (.slice U n2 bf) (.slice aa ab Y)).heap.size R Z aH aa ab Y ins outs vs (List.replicate n2 0) ((w.alloc g).alloc fJ).heap.size (Value.slice U n2 bf).ownBlock U bf:=by
 intro I aM bJ;have bv:((w.alloc g).alloc fJ).heap.size=w.heap.size+1+1:=by simp
 exact qej
structure Oth(w:World)(Mb:Nat)(b1:Option Addr)(n1 e1:Nat)(b3:Option Addr)(n3 e3:Nat)(R:Option Nat)(B:Nat):Prop where
 p:w.heap.size+1+1<=B
 m:Mb≠B
 r:R≠some B
 i:(Value.slice b1 n1 e1).ownBlock≠some B
 o:(Value.slice b3 n3 e3).ownBlock≠some B
theorem LJ.oth{W Z}(h:LJ w W a6 R Z ae aa ab ai ins outs vs ao base H U cap)(aT:W.heap.size<=J):Oth w a6 R Z ae aa ab ai H J where
 p:=hJ h.b.sz
 m:=hJ h.m.lt
 r:=λc=>by have:=(eH h.g.own (h.g.row.trans c)).2;omega
 i:=λc=>hJ ((eH h.i c).2)
 o:=λc=>hJ ((eH h.o c).2)
theorem cC.qcy(h:Zp:=by
 exact {
  g:=⟨by simpa using h.g.lt,λo=>by simp[h.g.free o],by rw[c _ _ xaa];exact h.g.c0,by rw[c _ _ xaa];exact h.g.c1,by rw[c _ _ xaa];exact h.g.c2,eI h.g.own (hL h.g.row t.r),h.g.row,h.g.ne,by simpa using h.g.sz⟩
  b:=⟨by simpa using aO,by rw[c _ _ xaa];exact bn,by rw[c _ _ xaa];exact aX,by rw[c _ _ xaa];exact bb,by simp[bz],by simp[bo],by simp[bw]⟩
  m:=by
   unfold IR
   rw[Below.heap_setCell W _ u _ t.m]
   exact h.m
  i:=eI h.i t.i
  o:=eI h.o t.o
  k:=pY w W h.k J j _ xaa
  hb:=h.hb,dM:=h.dM,rM:=h.rM,a1:=h.a1,a3:=h.a3,a4:=h.a4,m1:=h.m1,m3:=h.m3}):Zp:=h
open cC in
theorem LJ.other{W Z}(h:LJ w W a6 R Z ae aa ab ai ins outs vs ao base H U cap)(t:Oth w a6 R Z ae aa ab ai H J)(j u):LJ w (W.setCell ⟨J,j,none⟩ u) a6 R Z ae aa ab ai ins outs vs ao base H U cap:=by
 exact qcx
theorem ir3(w:World)(a b c):IR (w.alloc (.cells #[hA a,hA b,hA c] 3)) w.heap.size [a,b,c]:=by
 unfold IR;rw[heap_alloc_new];rfl
theorem G9(v ao q)(ap:q<3):([ovs v ao q 0,ovs v ao q 1,ovs v ao q 2]:List Int).set q (ao.getD (fld v q).toNat 0)=[ovs v ao (q+1) 0,ovs v ao (q+1) 1,ovs v ao (q+1) 2]:=by
 grind[ovs]
theorem Ha(vs x t s)(h:s≠x)(au:s<vs.length):(jst vs x t 0).2.getD s 0=-1:=by
 unfold jst;grind
theorem LJ.fin{W Z}(h:LJ w W a6 R Z ae aa ab ai ins outs vs ao base H U cap)(k:Kept 0 0 W I):
  ((fw I (w.heap.size+1) (.slice R Z ae) (.slice U vs.length cap) (.slice aa ab ai)).ownsRow w.heap.size 3 1 (.slice R Z ae) Z (ins.map (Value.int .i64))/\(fw I (w.heap.size+1) (.slice R Z ae) (.slice U vs.length cap) (.slice aa ab ai)).ownsRow w.heap.size 62 6 (.slice U vs.length cap) vs.length (fF vs)/\(fw I (w.heap.size+1) (.slice R Z ae) (.slice U vs.length cap) (.slice aa ab ai)).ownsRow w.heap.size 3 1 (.slice aa ab ai) ab (outs.map (Value.int .i64)))/\Kept 0 0 w (fw I (w.heap.size+1) (.slice R Z ae) (.slice U vs.length cap) (.slice aa ab ai)):=by
 exact xco
theorem aC.qbg(h:Zp:=by
 have aB:=h.step (vs2:=vs++[u]) (a2':=some ⟨aq,0,none⟩) (cap':=cap') (l:=W.heap.size) (h':=W.heap.size) k (by rw[af];exact own) (R':=some aq) rfl s ((Kept.refl 0 0 ag).mono λ_ _ c=>by omega) yad (λg _=>by omega);exact xfk):Zp:=h
open aC in
theorem LJ.call{W az Z}(h:LJ w W a6 R Z ae aa ab ai ins outs vs ao base H U cap)(k:Kept 0 0 W az)(u)(ad:vs.length<=1000000):
  Calls prog 44 #[eZ R Z ae U vs.length cap aa ab ai,u.agg] az λe ag=>∃aq cap',e=.returned (eZ R Z ae (some ⟨aq,0,none⟩) (vs.length+1) cap' aa ab ai)/\
   (∃u,ag.cell? ⟨w.heap.size,0,none⟩=some u)/\(∃u,ag.cell? ⟨w.heap.size,1,none⟩=some u)/\(∃u,ag.cell? ⟨w.heap.size,2,none⟩=some u)/\(∀o,ag.frozen? ⟨w.heap.size,o,none⟩=false)/\
   E (LJ w (fw ag w.heap.size (.slice R Z ae) (hz aq (vs.length+1) cap') (.slice aa ab ai)) a6 R Z ae aa ab ai ins outs (vs++[u]) ao base (some aq) (some ⟨aq,0,none⟩) cap'):=by
 exact qbf
theorem Br(w a1 U a3 Z c1 n2 c2 ab c3 ins vs outs)(f:GS w a1 Z U n2 a3 ab ins vs outs)(af:∀k,k<n2->1<=(vs.getD k hF).len/\(vs.getD k hF).len<=1000):
  Calls prog 126 #[eZ a1 Z c1 U n2 c2 a3 ab c3] w λe B=>e=.returned (.bool (!jY vs))/\Kept 0 0 w B:=by
 have ad:=f.v.len;have bh:=ez 0 0 w (e9 a1 Z c1 U n2 c2 a3 ab c3);by_cases N:n2<=2000
 ·have ar:E _:=Cb _ _ _ _ _ c1 _ c2 _ c3 _ _ _ (f.keep bh) N af;have HK:E _:=bh;have aX:((n2:Int)<=2000):=xaa;by_cases ah:eU vs<=50000
  ·have e:jY vs=false:=by grind[jY]
   rw[e];have bb:=decide_eq_true ah;exact xdt
  have e:jY vs=true:=by grind[jY]
  rw[e];have bb:=yay ah;exact xdt
 have e:jY vs=true:=by grind[jY]
 rw[e];have aX:¬((n2:Int)<=2000):=xaa;clear f af ad e;go_enter func126,ntmps126;go_wp2;go_ret;exact⟨rfl,bh⟩
def tY(act:List Bool)(v:Vl)(k:Nat):Bool:=(List.range k).any λq=>act.getD (fld v q).toNat false
theorem Ej(act v k):tY act v (k+1)=(tY act v k||act.getD (fld v k).toNat false):=by
 simp_all[tY,List.range_succ]
theorem sE{i j b}(h:j≠i):(xs.set i b).getD j false=xs.getD j false:=by
 grind
theorem zL(vs0 x):∀m i,x+m<i->(jg vs0 x m).getD i false=false
 |0,i,h=>by
  rw[jg,sE xaa,yai,List.getElem?_replicate]
  split<;>rfl
 |m+1,i,h=>by rw[jg,sE xaa,zL vs0 x m i xaa]
theorem Ek{i}(h:xs.getD i false=false):xs.set i false=xs:=by
 by_cases hi:i<xs.length
 ·exact xhd
 exact List.set_eq_of_length_le xaa
structure AcS(w W:World)(P g2 n A:Nat)(b1 b3:Option Addr)(n1 c1 c2 n3 c3:Nat)(vs:List Vl)(act:List Bool):Prop where
 g:G0 W P (.slice b1 n1 c1) (.slice (some ⟨g2,0,none⟩) n c2) (.slice b3 n3 c3)
 v:VA W g2 n vs
 a:BR W A act
 k:Kept 0 0 w W
 n1:P≠A
 n2:g2≠A
 l:w.heap.size<=A
theorem AcS.keep{W Z}(h:AcS w W P aN n A R aa Z c1 c2 ab c3 vs act)(k:Kept 0 0 W I):AcS w I P aN n A R aa Z c1 c2 ab c3 vs act:=
 ⟨h.g.keep k,VA.keep h.v k yaa,BR.keep h.a k yaa,h.k.trans k,h.n1,h.n2,h.l⟩
theorem AcS.set{W Z}(h:AcS w W P aN n A R aa Z c1 c2 ab c3 vs act)(i b):AcS w (W.setCell ⟨A,i,none⟩ (.bool b)) P aN n A R aa Z c1 c2 ab c3 vs (act.set i b):=
 have k:=fC (S:=λq=>q=A) W A i (.bool b) rfl
 ⟨h.g.keepC k h.n1,h.v.keepC k h.n2,BR.set h.a i b,h.k.new (eR (lo:=A) (hi:=A+1) W ⟨A,i,none⟩ (.bool b) yac) h.l,h.n1,h.n2,h.l⟩
theorem zM(w R aa aN Z c1 n c2 ab c3 s x vs)(bO:VA w aN n vs)(af:n<=2000)(au:s<n)(an:x<n)(b9:∀j,j<n->0<=(vs.getD j hF).op/\(vs.getD j hF).op<=13)(hops:∀j,j<n->∀k,k<cnt (vs.getD j hF).op->0<=fld (vs.getD j hF) k/\fld (vs.getD j hF) k<j):
  Calls prog 138 #[eZ R Z c1 (some ⟨aN,0,none⟩) n c2 aa ab c3,hA s,hA x] w λe B=>∃A,e=.returned (hz A n n)/\BR B A (jg vs x (s-x))/\w.heap.size<=A/\Kept 0 0 w B:=by
 have aG:=bO.lt;have bB:E _:=bO.len;have am:=Nq n (w.alloc (e9 R Z c1 (some ⟨aN,0,none⟩) n c2 aa ab c3)) xaa;have aw:=ez 0 0 w (e9 R Z c1 (some ⟨aN,0,none⟩) n c2 aa ab c3);have ak:=ez 0 0 (w.alloc (e9 R Z c1 (some ⟨aN,0,none⟩) n c2 aa ab c3)) (.cells (madeCells #[.bool false] n) 4);have a2:=BR.made (w.alloc (e9 R Z c1 (some ⟨aN,0,none⟩) n c2 aa ab c3)) n;rw[show(w.alloc _).heap.size=w.heap.size+1 by simp]at a2 am
 have z:E (AcS w _ _ _ n _ _ _ _ _ _ _ _ _ _):=
  ⟨(fB w _ _ _).keep ak,VA.keep bO (aw.trans ak) yaa,a2,aw.trans ak,by omega,by omega,by omega⟩
 have cd:E (AcS w (((w.alloc (e9 R Z c1 (some ⟨aN,0,none⟩) n c2 aa ab c3)).alloc (.cells (madeCells #[.bool false] n) 4)).setCell ⟨w.heap.size+1,x,none⟩ (.bool true)) w.heap.size aN n (w.heap.size+1) R aa Z c1 c2 ab c3 vs (jg vs x 0)):=by
  have:=z.o.set x true;unfold jg;rw[bB.o];exact this
 have aP:=z.o.g.q1;have f:=BR.cell z.o.a x (by grind);have h:=BR.free z.o.a x;generalize (List.replicate n _).getD x _=Y at f;have cA:(0:Int)<=x:=xaa;have b4:(x:Int)<n:=xaa;have X:IntKind.i64.wrap (x+1)=x+1:=by rw[IntKind.wrap_i64];omega
 have ct:E _:=b9;have ej:E _:=hops;clear bO aw ak a2 z b9 hops;generalize (w.alloc _).alloc _=ag at am cd aP f h;go_enter func138,ntmps138;go_wp2_with fail;clear am aP f h;generalize ag.setCell _ _=bp at cd⊢;generalize r:w.heap.size+1=A at cd⊢;clear r;go_loopw [8] (λv W=>∃(i m:Nat),v=hA i/\i=x+1+m/\m<=s-x/\E (AcS w W w.heap.size aN n A R aa Z c1 c2 ab c3 vs (jg vs x m))) (λv _=>s+1-(intOf v).toNat)
 case atStart=>grind
 case round=>
  obtain⟨i,m,rfl,g,q,bC⟩:=hrel;clear cd;by_cases gu:i<=s
  ·have cM:(0:Int)<=i:=xaa;have ce:(i:Int)<n:=xaa;have Q:(i:Int)<=s:=xaa;have aV:i<n:=xaa;obtain⟨v,aO⟩:∃v,v=vs.getD i hF:=⟨_,rfl⟩
   have bH:E _:=aO;have a5:E _:=Cc v.op (by rw[aO];exact(ct.o i aV).1) (by rw[aO];exact(ct.o i aV).2);have d4:=ej.o i aV;rw[<-aO]at d4;have e7:E _:=d4
   have ap:E (AcS w wr w.heap.size aN n A R aa Z c1 c2 ab c3 vs ((jg vs x m).set i (tY (jg vs x m) v 0))):=by
    have e:(jg _ x m).set i (tY (jg vs x m) v 0)=jg _ x m:=Ek (zL vs x m i xaa);show AcS _ _ _ _ _ _ _ _ _ _ _ _ _ _ _;rw[e];exact bC.o
   have l:E (i=x+1+m/\m<=s-x):=⟨g,q⟩
   have eg:E ((jg vs x m).length=n):=by show _=_;rw[oA,bB.o]
   have cy:E (jg vs x (m+1)=(jg vs x m).set i (tY (jg vs x m) v (cnt v.op))):=by
    show _=_;rw[jg,<-g,<-aO];rfl
   generalize jg _ x m=act at ap eg cy;have hp:IntKind.i64.wrap (i+1)=i+1:=by rw[IntKind.wrap_i64];omega
   clear bC g q aO d4;go_wp2_with fail;go_loopw [9] (λu W=>∃k:Nat,k<=cnt v.op/\u=hA k/\E (AcS w W w.heap.size aN n A R aa Z c1 c2 ab c3 vs (act.set i (tY act v k)))) (λu _=>cnt v.op-(intOf u).toNat)
   case atStart=>exact⟨0,yae,rfl,ap⟩
   case round=>
    obtain⟨k,O,rfl,aW⟩:=hrel;clear ap;have aP:=aW.o.g.q1;have a7:=aW.o.v.at_ i aV;rw[<-bH.o]at a7;obtain⟨bD,aQ,a8,bi,bk,K⟩:=a7;by_cases aG:k<cnt v.op
    ·obtain⟨o,ho,gv⟩:∃o:Nat,fld v k=o/\o<i:=by
      have:=e7.o k aG;exact⟨(fld v k).toNat,by omega,by omega⟩
     have cC:=fI v.op;have cJ:E (∀W,Calls _ _ _ W λe B=>e=.returned (.int _ o)/\Kept 0 0 W _):=λW=>by rw[<-ho];exact mj W v k xaa
     have f:=BR.cell aW.o.a o (by rw[List.length_set,eg.o];omega);rw[sE xaa]at f
     have F:E (tY act v (k+1)=(tY act v k||act.getD o false)):=by
      show _=_;rw[Ej,ho];rfl
     have S:E _:=cy.o;have bP:k<(cnt v.op:Int):=xaa;have cn:(0:Int)<=o:=xaa;have bT:(o:Int)<n:=xaa;have fo:IntKind.i64.wrap (k+1)=k+1:=by rw[IntKind.wrap_i64];omega
     have p:E (∀W,Kept 0 0 _ W->W.cell? _=some _):=λW bJ=>by
      rw[bJ.cell (p:=⟨A,o,none⟩) aW.o.a.lt xaa];exact f
     clear ho f;go_wp2_with (first|(go_at_call 51;refine yaj (a5.o _) ?_;rintro e cl ⟨rfl,rfl⟩)|fail);refine yaj (cJ.o _) ?_;rintro e ci ⟨rfl,bI⟩;have f:=p.o _ bI;have C:E _:=aW.o.keep bI;have G:=BR.cell C.o.a i (by rw[List.length_set,eg.o];omega);have h:=BR.free C.o.a i;generalize (act.set i _).getD i _=Y at G;clear aP bD aQ a8 bi bk K bI p cJ aW;cases hb:act.getD o false
     ·rw[hb]at f
      have HR:E (AcS w ci w.heap.size aN n A R aa Z c1 c2 ab c3 vs (act.set i (tY act v (k+1)))):=by
       show AcS _ _ _ _ _ _ _ _ _ _ _ _ _ _ _;rw[F.o,hb,Bool.or_false];exact C.o
      exact xgo
     rw[hb]at f
     have HR:E (AcS w (ci.setCell ⟨A,i,none⟩ (.bool true)) w.heap.size aN n A R aa Z c1 c2 ab c3 vs (act.set i (tY act v (k+1)))):=by
      have:=C.o.set i true;rw[List.set_set]at this;show AcS _ _ _ _ _ _ _ _ _ _ _ _ _ _ _;rw[F.o,hb,Bool.or_true];exact this
     exact xgo
    have bP:¬(k<(cnt v.op:Int)):=xaa;have d2:k=cnt v.op:=xaa
    have HR:E (AcS w wr w.heap.size aN n A R aa Z c1 c2 ab c3 vs (jg vs x (m+1))):=by
     show AcS _ _ _ _ _ _ _ _ _ _ _ _ _ _ _;rw[cy.o,<-d2];exact aW.o
    clear aW d2;go_wp2_with (first|(go_at_call 51;refine yaj (a5.o _) ?_;rintro e cl ⟨rfl,rfl⟩)|fail);clear aP bD aQ a8 bi bk K;go_roundw;exact⟨i+1,m+1,by go_num,hJ l.o,hJ l.o,HR⟩;simp[intOf];omega
  have y:m=s-x:=xaa;have Q:¬((i:Int)<=s):=xaa;have N:E _:=bC.o;clear bC g;go_wp2_with fail;go_ret;rw[<-y];exact⟨A,rfl,N.o.a,N.o.l,N.o.k⟩
end
section
variable{w aA I:World}{m ins outs ao:List Int}{n a6 Z A ae ab ai base cap cap' J:Nat}{st:List Vl×List Int}{act:List Bool}{R aa U a2':Option Addr}{vs vs2:List Vl}{H R':Option Nat}
structure LK(w W:World)(b1:Option Addr)(n1 e1:Nat)(b3:Option Addr)(n3 e3:Nat)(ins outs:List Int)(vs:List Vl)(base:Nat)(R:Option Nat)(a2:Option Addr)(cap:Nat):Prop where
 g:SG W w.heap.size b1 n1 e1 b3 n3 e3 vs base R a2 cap
 b:RB W (w.heap.size+1) (.slice none 0 0) (.slice none 0 0) (.slice none 0 0)
 i:W.ownsRow base 3 1 (.slice b1 n1 e1) n1 (ins.map (Value.int .i64))
 o:W.ownsRow base 3 1 (.slice b3 n3 e3) n3 (outs.map (Value.int .i64))
 k:Kept 0 0 w W
 hb:w.heap.size+1+1<=base
 a1:Apart (.slice b1 n1 e1) (.slice a2 vs.length cap)
 a3:Apart (.slice b3 n3 e3) (.slice a2 vs.length cap)
 a4:Apart (.slice b1 n1 e1) (.slice b3 n3 e3)
theorem LK.keep{W}(h:LK w W R Z ae aa ab ai ins outs vs base H U cap)(k:Kept 0 0 W I):LK w I R Z ae aa ab ai ins outs vs base H U cap:=
 {h with g:=h.g.keep k,b:=h.b.keep k,i:=eO h.i k,o:=eO h.o k,k:=h.k.trans k}
structure Farb(w:World)(b1:Option Addr)(n1 e1:Nat)(b3:Option Addr)(n3 e3:Nat)(R:Option Nat)(B:Nat):Prop where
 p:w.heap.size+1+1<=B
 r:R≠some B
 i:(Value.slice b1 n1 e1).ownBlock≠some B
 o:(Value.slice b3 n3 e3).ownBlock≠some B
theorem LK.far{W}(h:LK w W R Z ae aa ab ai ins outs vs base H U cap)(aT:W.heap.size<=J):Farb w R Z ae aa ab ai H J where
 p:=hJ h.b.sz
 r:=λc=>by have:=(eH h.g.own (h.g.row.trans c)).2;omega
 i:=λc=>hJ ((eH h.i c).2)
 o:=λc=>hJ ((eH h.o c).2)
theorem cD.qcy(h:Zp:=by
 exact {
  g:=⟨by simpa using h.g.lt,λo=>by simp[h.g.free o],by rw[c _ _ xaa];exact h.g.c0,by rw[c _ _ xaa];exact h.g.c1,by rw[c _ _ xaa];exact h.g.c2,eI h.g.own (hL h.g.row t.r),h.g.row,h.g.ne,by simpa using h.g.sz⟩
  b:=⟨by simpa using aO,by rw[c _ _ xaa];exact bn,by rw[c _ _ xaa];exact aX,by rw[c _ _ xaa];exact bb,by simp[bz],by simp[bo],by simp[bw]⟩
  i:=eI h.i t.i
  o:=eI h.o t.o
  k:=pY w W h.k J j _ xaa
  hb:=h.hb,a1:=h.a1,a3:=h.a3,a4:=h.a4}):Zp:=h
open cD in
theorem LK.other{W}(h:LK w W R Z ae aa ab ai ins outs vs base H U cap)(t:Farb w R Z ae aa ab ai H J)(j u):LK w (W.setCell ⟨J,j,none⟩ u) R Z ae aa ab ai ins outs vs base H U cap:=by
 exact qcx
theorem Z.qbc(h:Zp:=by
 exact⟨{
  g:=aC
  b:=h.b.stq aL xaa j
  i:=sD h.i aL bO ch
  o:=sD h.o aL bT cn
  k:=Chg.kept h.k aL.chg (by
   rintro i (c|c)
   ·omega
   ·have:=(eH h.g.own (h.g.row.trans c)).1;have:=h.hb;omega)
  hb:=h.hb
  a1:=d6
  a3:=bj
  a4:=h.a4},aL⟩):Zp:=h
open Z in
theorem LK.step{W ag aF l h'}(h:LK w W R Z ae aa ab ai ins outs vs base H U cap)(k:Kept 0 0 W aA)
  (own:ag.ownsRow base 62 6 (.slice a2' vs2.length cap') vs2.length (fF vs2)) (z:(Value.slice a2' vs2.length cap').ownBlock=R') (s:StQ (λ_=>False) H aA R' ag) (ak:Kept l h' ag aF) (af:W.heap.size<=l) (K:∀g,R'=some g->g<l\/h'<=g):
  LK w (fw aF w.heap.size (.slice R Z ae) (.slice a2' vs2.length cap') (.slice aa ab ai)) R Z ae aa ab ai ins outs vs2 base R' a2' cap'/\StQ (λi=>i=w.heap.size) H W R' (fw aF w.heap.size (.slice R Z ae) (.slice a2' vs2.length cap') (.slice aa ab ai)):=by
 obtain⟨aC,aL⟩:=h.g.put2 k own z s ak af K;exact qbb
theorem LK.read{W}(h:LK w W R Z ae aa ab ai ins outs vs base H U cap)(ad:0<vs.length):
  ∃g,U=some ⟨g,0,none⟩/\H=some g/\g<W.heap.size/\∀j,j<vs.length->At W g (j*6) (vs.getD j hF):=by
 exact xgd
theorem LK.fin{W}(h:LK w W R Z ae aa ab ai ins outs vs base H U cap)(k:Kept 0 0 W I):
  ((fw I (w.heap.size+1) (.slice R Z ae) (.slice U vs.length cap) (.slice aa ab ai)).ownsRow w.heap.size 3 1 (.slice R Z ae) Z (ins.map (Value.int .i64))/\(fw I (w.heap.size+1) (.slice R Z ae) (.slice U vs.length cap) (.slice aa ab ai)).ownsRow w.heap.size 62 6 (.slice U vs.length cap) vs.length (fF vs)/\(fw I (w.heap.size+1) (.slice R Z ae) (.slice U vs.length cap) (.slice aa ab ai)).ownsRow w.heap.size 3 1 (.slice aa ab ai) ab (outs.map (Value.int .i64)))/\Kept 0 0 w (fw I (w.heap.size+1) (.slice R Z ae) (.slice U vs.length cap) (.slice aa ab ai)):=by
 exact xco
theorem aD.qbg(h:Zp:=by
 have aB:=h.step (vs2:=vs++[u]) (a2':=some ⟨aq,0,none⟩) (cap':=cap') (l:=W.heap.size) (h':=W.heap.size) k (by grind) (R':=some aq) rfl s ((Kept.refl 0 0 ag).mono λ_ _ c=>by omega) yad (λg _=>by omega);exact xfk):Zp:=h
open aD in
theorem LK.call{W az}(h:LK w W R Z ae aa ab ai ins outs vs base H U cap)(k:Kept 0 0 W az)(u)(ad:vs.length<=1000000):
  Calls prog 44 #[eZ R Z ae U vs.length cap aa ab ai,u.agg] az λe ag=>∃aq cap',e=.returned (eZ R Z ae (some ⟨aq,0,none⟩) (vs.length+1) cap' aa ab ai)/\
   (∃u,ag.cell? ⟨w.heap.size,0,none⟩=some u)/\(∃u,ag.cell? ⟨w.heap.size,1,none⟩=some u)/\(∃u,ag.cell? ⟨w.heap.size,2,none⟩=some u)/\(∀o,ag.frozen? ⟨w.heap.size,o,none⟩=false)/\
   E (LK w (fw ag w.heap.size (.slice R Z ae) (hz aq (vs.length+1) cap') (.slice aa ab ai)) R Z ae aa ab ai ins outs (vs++[u]) base (some aq) (some ⟨aq,0,none⟩) cap'/\StQ (λi=>i=w.heap.size) H W (some aq) (fw ag w.heap.size (.slice R Z ae) (hz aq (vs.length+1) cap') (.slice aa ab ai))):=by
 exact qbf
structure LG(w W:World)(Mb A:Nat)(b1:Option Addr)(n1 e1:Nat)(b3:Option Addr)(n3 e3:Nat)(ins outs:List Int)(vs:List Vl)(mv:List Int)(act:List Bool)(base:Nat)(R:Option Nat)(a2:Option Addr)(cap:Nat):Prop where
 l:LK w W b1 n1 e1 b3 n3 e3 ins outs vs base R a2 cap
 m:IR W Mb mv
 a:BR W A act
 fm:Farb w b1 n1 e1 b3 n3 e3 R Mb
 fa:Farb w b1 n1 e1 b3 n3 e3 R A
 ne:Mb≠A
theorem LG.keep{W}(h:LG w W a6 A R Z ae aa ab ai ins outs vs ao act base H U cap)(k:Kept 0 0 W I):LG w I a6 A R Z ae aa ab ai ins outs vs ao act base H U cap:=
 ⟨h.l.keep k,h.m.keep k yaa,h.a.keep k yaa,h.fm,h.fa,h.ne⟩
theorem LG.set{W}(h:LG w W a6 A R Z ae aa ab ai ins outs vs ao act base H U cap)(j r):LG w (W.setCell ⟨a6,j,none⟩ (hA r)) a6 A R Z ae aa ab ai ins outs vs (ao.set j r) act base H U cap:=
 ⟨h.l.other h.fm j _,h.m.set j r,h.a.keepC (fC (S:=λq=>q=a6) W a6 j (hA r) rfl) (λe=>h.ne e.symm),h.fm,h.fa,h.ne⟩
theorem LG.stq{W}(h:LG w W a6 A R Z ae aa ab ai ins outs vs ao act base H U cap)(l:LK w I R Z ae aa ab ai ins outs vs2 base R' a2' cap')(q:StQ (λi=>i=w.heap.size) H W R' I):LG w I a6 A R Z ae aa ab ai ins outs vs2 ao act base R' a2' cap':=by
 have f:∀{J},J<W.heap.size->Farb w R Z ae _ _ _ H J->Farb w _ _ _ aa ab ai R' J:=λaT t=>⟨t.p,by
  rcases q.row with e|⟨r,e,aD⟩
  ·rw[e];exact t.r
  grind,t.i,t.o⟩
 refine⟨l,h.m.stq q (hJ h.fm.p) h.fm.r,h.a.keepC q.chg ?_,f h.m.lt h.fm,f h.a.lt h.fa,h.ne⟩;rintro (c|c)
 ·have:=h.fa.p;omega
 exact h.fa.r c
def gdn(vs:List Vl)(act:List Bool)(s:Nat):Nat->List Vl×List Int
 |0=>xK vs s
 |j+1=>giM vs act (s-j) (gdn vs act s j)
theorem tZ(vs act s x):∀k,k<=s-x->zJ vs act x (xK vs s) ((List.range k).map (λi=>(s-x)-1-i))=gdn vs act s k
 |0,_=>rfl
 |k+1,h=>by
  rw[List.range_succ,List.map_append,List.map_cons,List.map_nil,Bp,tZ _ _ s x k xaa,gdn]
  grind
def xO(n:Nat)(act:List Bool)(sl:List Int):Prop:=∀q,q<n->sl.getD q 0=-1\/(0<=sl.getD q 0/\act.getD q false=true)
theorem N6{p}[Decidable p]{a b:List Vl×Int}(ar:0<=a.2)(hb:0<=b.2):0<=(if p then a else b).2:=by grind
theorem N7(i v l k d aV)(aK:0<=d):0<=(nd i v l k d aV).2:=by
 unfold nd;repeat' (apply N6)
 all_goals omega
theorem zN{o p}(h:xO n act m)(af:m.length=n)(aM:0<=p)(ar:act.getD o false=true):xO n act (m.set o p):=λq ap=>by
 rw[yai,List.getElem?_set]
 by_cases e:o=q
 ·simp_all
 ·rw[hC e,<-yai]
  exact h q ap
theorem Ky{i k}(h:xO n act st.2)(af:st.2.length=n)(aK:0<=st.2.getD i 0):xO n act (gkM vs act i k st).2:=by
 grind[gkM,ms,zN,N7]
theorem El{o i p}(h:o≠i):(ms vs o p st).2.getD i 0=st.2.getD i 0:=by
 unfold ms;grind
theorem Kz{i k}(h:(fld (vs.getD i hF) k).toNat≠i):(gkM vs act i k st).2.getD i 0=st.2.getD i 0:=by
 grind[gkM,El]
theorem ud{vs act i st}:∀k,(∀q,q<k->(fld (vs.getD i hF) q).toNat≠i)->(jI vs act i st k).2.getD i 0=st.2.getD i 0
 |0,_=>rfl
 |k+1,h=>by rw[jI,Kz (h k yaf),ud k (λq ap=>h q xaa)]
theorem ue{vs act n i st}(h:xO n act st.2)(af:st.2.length=n)(aK:0<=st.2.getD i 0):∀k,(∀q,q<k->(fld (vs.getD i hF) q).toNat≠i)->xO n act (jI vs act i st k).2
 |0,_=>h
 |k+1,a5=>Ky (ue h af aK k (λq ap=>a5 q xaa)) (by rw[qB];exact af) (by grind[ud])
theorem KA{i}(h:xO n act st.2)(af:st.2.length=n)(hi:i<n)(a5:∀q,q<cnt (vs.getD i hF).op->(fld (vs.getD i hF) q).toNat≠i):xO n act (giM vs act i st).2:=by
 unfold giM;split
 ·exact h
 rename_i ah;exact ue h af (by rcases h i hi with c|c<;>grind) _ a5
structure GdI(vs:List Vl)(act:List Bool)(n:Nat)(L:Nat)(C:Int)(st:List Vl×List Int):Prop where
 i:xO n act st.2
 l:st.2.length=n
 p:Pre vs st.1
 z:SzU L C st.1
theorem Ct{vs act n s}(ad:vs.length=n)(au:s<n)(bv:SzU 2000 50000 vs)(bA:LnB vs)(ar:act.getD s false=true)(a5:∀i,i<n->∀q,q<cnt (vs.getD i hF).op->(fld (vs.getD i hF) q).toNat≠i):∀j,j<=s->GdI vs act n (2001+12*j) (51000+12000*(j:Int)) (gdn vs act s j)
 |0,_=>by
  refine⟨?_,by simp[gdn,xK,ad],⟨_,rfl⟩,?_⟩
  ·refine zN (λq ap=>.inl ?_) (by grind) xaa ar
   simp_all
  ·exact(SzU.app (L':=1) (C':=1000) bv ⟨by simp,by simp[eU],by simp[eU]⟩).mono xaa xaa
 |j+1,h=>by
  have G:=Ct ad au bv bA ar a5 j xaa
  exact⟨KA G.i G.l xaa (a5 _ xaa),by rw[gdn,Kx];exact G.l,Kw G.p,(N1 bA G.z).mono xaa xaa⟩
theorem mO{s q}(h:q<=s):(m.take (s+1)).getD q 0=m.getD q 0:=by
 grind
theorem rp(m:List Int)(s o p):(m.take (s+1)).set o p=(m.set o p).take (s+1):=List.take_set.symm
theorem Em(vs s)(au:s<vs.length):(List.replicate (s+1) (-1:Int)).set s (vs.length:Nat)=(xK vs s).2.take (s+1):=by
 unfold xK;simp only;rw[<-rp,List.take_replicate,show min (s+1) vs.length=s+1 by omega]
theorem bJ.qch(h:Zp:=by
 have f:RB (fw aA w.heap.size (.slice R Z aH) (.slice U n2 bf) (.slice aa ab Y)) (w.heap.size+1) (.slice none 0 0) (.slice none 0 0) (.slice none 0 0):=by
  obtain⟨aO,bn,aX,bb,bz,bo,bw⟩:=K.keep k;exact xdf
 have a8:=S.size;subst ad
 exact {
  g:=⟨bX,λo=>by
    unfold fw
    simp[k.frozen (p:=⟨w.heap.size,o,none⟩) bg.sz xaa,a5 o],ba,aP,y2,p2,rfl,λc=>by grind,yao d1 a8⟩
  b:=f
  i:=bu
  o:=z
  k:=Kept.new (cN.trans k) S yad
  hb:=cQ
  a1:=λJ F N=>aC J N F
  a3:=λJ F N=>aL J N F
  a4:=b1}):Zp:=h
theorem bJ.qek(h:Zp:=by
 have aB:∀{e size n:Nat}{v:Value}{xs:List _},aA.ownsRow base e _ v n xs->(fw aA _ _ _ _).ownsRow _ e size v n _/\(∀J,v.ownBlock=some J->w.heap.size+1+1<=J/\J<aA.heap.size):=λh=>
  ⟨f9 h S (λb hb=>hJ ((eH h hb).1)),λJ aT=>hJ (eH h aT)⟩
 exact qcg):Zp:=h
open bJ in
theorem LK.start{n2 aH bf Y g u0 u1 u2}(ad:vs.length=n2)
  (bg:G0 ((w.alloc g).alloc fJ) w.heap.size u0 u1 u2) (a5:∀o,((w.alloc g).alloc fJ).frozen? ⟨w.heap.size,o,none⟩=false) (K:RB ((w.alloc g).alloc fJ) (w.heap.size+1) (.slice none 0 0) (.slice none 0 0) (.slice none 0 0)) (k:Kept 0 0 ((w.alloc g).alloc fJ) aA) (cQ:w.heap.size+1+1<=base) (d1:base<=aA.heap.size)
  (cn:aA.ownsRow base 3 1 (.slice R Z aH) Z (ins.map (Value.int .i64))) (bT:aA.ownsRow base 62 6 (.slice U n2 bf) n2 (fF vs)) (bj:aA.ownsRow base 3 1 (.slice aa ab Y) ab (outs.map (Value.int .i64)))
  (aC:Apart (.slice U n2 bf) (.slice R Z aH)) (aL:Apart (.slice U n2 bf) (.slice aa ab Y)) (b1:Apart (.slice R Z aH) (.slice aa ab Y)):
  LK w (fw aA w.heap.size (.slice R Z aH) (.slice U n2 bf) (.slice aa ab Y)) R Z aH aa ab Y ins outs vs base (Value.slice U n2 bf).ownBlock U bf:=by
 exact qej
end
section
attribute[local go_sem] eF eE eD
noncomputable abbrev Qy (n:Nat):Code:=(Tryz.f134.body.bind (px n)).getD .skip
theorem N8{w W a6 A Z ae ab ai base cap bJ N o R aa ins outs ao act us H p q g K b a c d f h i j k n r s t u v x y z J C D Eaa bg G Y cf ad L M aV bv P Q S T cg V X bS a9 bI dd ak df di ds dv dT d0 d1 d2 d4 bL b1 aY d5 d6 cj bR ea cN eb ec ci cu cx cy aE c9 cC cD cw cG cI aT cM cQ cS cT cU bO bf bM cV cW cX cB c6 dc b0 a1 U a3 a4 bN cz b3 aQ cp e5 aC cA e6 e7 bx fa fc ff fj fl bm fm cH fo fq fs fu bs bt fv ek fz aJ aO cr ca ed ee ef aS bi b7 ba ck b4 fM bh cb bV fS fG bH aH eg ei ej bW el et eu ev ew ex ey eA eB eC eL eS eT e0 e1 e2 e3 bE}(HM:E (LG w W a6 A R Z ae aa ab ai ins outs us ao act base H (some ⟨bJ,0,none⟩) cap))(au:us.length<=900000)(ho:o<us.length)(aW:o<N)(am:ao.length=N)(cK:(us.getD o hF).len=g)(ap:ao.getD o 0=q)
  (O:∀(I:World) (aq cap':Nat) (l m F af ah aj an ar av az aB aD aF aG:Value),E (LG w I a6 A R Z ae aa ab ai ins outs (us++[eK 2 g q p 0]) ao act base (some aq) (some ⟨aq,0,none⟩) cap')->K ⟨#[b,a,c,hy w.heap.size,d,f,h,i,j,k,hz a6 N N,n,r,s,hA o,t,hA p,u,v,x,y,z,J,C,D,Eaa,bg,G,Y,cf,ad,L,M,aV,bv,P,Q,S,T,cg,V,X,bS,a9,bI,dd,ak,df,di,ds,dv,dT,d0,d1,d2,d4,bL,b1,aY,d5,d6,cj,bR,ea,cN,eb,ec,ci,cu,cx,cy,aE,c9,cC,cD,cw,cG,cI,aT,cM,cQ,cS,cT,cU,bO,bf,bM,cV,cW,cX,cB,c6,dc,b0,a1,U,a3,a4,bN,cz,b3,aQ,cp,e5,aC,cA,e6,e7,bx,fa,fc,ff,fj,fl,bm,fm,cH,fo,fq,fs,fu,bs,bt,fv,ek,fz,aJ,aO,cr,ca,ed,ee,ef,l,m,F,af,ah,aj,an,ar,av,az,aB,aD,aF,aG,eg,ei,ej,bW,el,et,eu,ev,ew,ex,ey,eA,eB,eC,eL,eS,eT,e0,e1,e2,e3,bE],[]⟩ I):
  Code.wp prog (Qy 27) (Exit.then K λ_ _ _=>False) ⟨#[b,a,c,hy w.heap.size,d,f,h,i,j,k,hz a6 N N,n,r,s,hA o,t,hA p,u,v,x,y,z,J,C,D,Eaa,bg,G,Y,cf,ad,L,M,aV,bv,P,Q,S,T,cg,V,X,bS,a9,bI,dd,ak,df,di,ds,dv,dT,d0,d1,d2,d4,bL,b1,aY,d5,d6,cj,bR,ea,cN,eb,ec,ci,cu,cx,cy,aE,c9,cC,cD,cw,cG,cI,aT,cM,cQ,cS,cT,cU,bO,bf,bM,cV,cW,cX,cB,c6,dc,b0,a1,U,a3,a4,bN,cz,b3,aQ,cp,e5,aC,cA,e6,e7,bx,fa,fc,ff,fj,fl,bm,fm,cH,fo,fq,fs,fu,bs,bt,fv,ek,fz,aJ,aO,cr,ca,ed,ee,ef,aS,bi,b7,ba,ck,b4,fM,bh,cb,bV,fS,fG,bH,aH,eg,ei,ej,bW,el,et,eu,ev,ew,ex,ey,eA,eB,eC,eL,eS,eT,e0,e1,e2,e3,bE],[]⟩ W:=by
 have HK:E _:=O;clear O;have aZ:=HM.o.l.g.c0;have ax:=HM.o.l.g.c1;have aU:=HM.o.l.g.c2;obtain⟨c8,dg,_,_,a2⟩:=HM.o.l.read xaa;cases dg;have B:=(a2 o ho).c1;rw[cK]at B;have cP:=IR.cell HM.o.m o xaa;rw[ap]at cP;have d7:0<=(o:Int):=xaa;have cn:(o:Int)<us.length:=xaa;have bT:(o:Int)<N:=xaa;clear cK ap a2 am ho aW;conv=>arg 2;whnf
 go_region_with (first
  |(go_at_call 44;refine yaj (LK.call HM.o.l ((eG W).trans aw) (eK 2 g q p 0) xaa) ?_;rintro e ag ⟨aq,cap',rfl,⟨u0,br⟩,⟨u1,ay⟩,⟨u2,a0⟩,al,aI⟩;have bZ:=al 0;have b5:=al 1;have b6:=al 2;have bQ:E _:=HM.o.stq aI.o.1 aI.o.2;clear al aI)
  |(go_at_call 46;refine yaj (ij _ _ _ _ _ _) ?_;rintro e aA ⟨rfl,aw⟩;have bK:=(LG.keep HM.o ((eG W).trans aw)).l.g.c0;have bu:=(LG.keep HM.o ((eG W).trans aw)).l.g.c1;have p2:=(LG.keep HM.o ((eG W).trans aw)).l.g.c2))
 all_goals exact HK.o _ _ _ _ _ _ _ _ _ _ _ _ _ _ _ _ _ bQ
end
section
def vD(w w':World)(n1 n3:Nat)(ins outs:List Int)(M:List Vl×Int)(e:Ending):Prop:=
 ∃b1 d1 b3 d3 a2 cap,e=.returned (.tuple #[eZ b1 n1 d1 a2 M.1.length cap b3 n3 d3,.int .i64 M.2])/\w'.ownsRow w.heap.size 3 1 (.slice b1 n1 d1) n1 (ins.map (Value.int .i64))/\w'.ownsRow w.heap.size 62 6 (.slice a2 M.1.length cap) M.1.length (fF M.1)/\w'.ownsRow w.heap.size 3 1 (.slice b3 n3 d3) n3 (outs.map (Value.int .i64))/\Apart (.slice b1 n1 d1) (.slice b3 n3 d3)
end
section
attribute[local go_sem] eF eE eD
theorem g.qad(h:Zp:=by
 exact qdu):Zp:=h
theorem g.qdv(h:Zp:=by
 rw[gd.o]at be;have bg:vs.length<=1000000:=hJ bB.o
 by_cases gw:s<x
 all_goals
  (first|(have bv:(s:Int)<x:=by omega)|(have bv:¬((s:Int)<x):=by omega))
  go_upto_region 5 with fail
  clear bK bu p2 bG f1 f2 bm
  generalize ((ag.setCell _ _).setCell _ _).setCell _ _=dc at HL dd⊢
  rw[<-bB.o]at HL⊢
  have aZ:=HL.o.g.c0
  have ax:=HL.o.g.c1
  have aU:=HL.o.g.c2
  go_cut [] (λcd=>∃aq cap',E (LK w cd R Z aH aa ab Y ins outs (vs++[eK 1 co 0 0 0]) aA.heap.size (some aq) (some ⟨aq,0,none⟩) cap'))
  case first=>
   go_region_with (first
    |(go_at_call 44;refine yaj (LK.call HL.o ((eG _).trans aw) _ bg) ?_;rintro e ag ⟨aq,cap',rfl,⟨_,br⟩,⟨_,ay⟩,⟨_,a0⟩,al,aS⟩;have bZ:=al 0;have b5:=al 1;have b6:=al 2;have cp:E _:=aS.o.1;clear al aS)
    |(go_at_call 71;refine yaj (oT _ _) ?_;rintro e aA ⟨rfl,aw⟩;have bK:=(LK.keep HL.o ((eG _).trans aw)).g.c0;have bu:=(LK.keep HL.o ((eG _).trans aw)).g.c1;have p2:=(LK.keep HL.o ((eG _).trans aw)).g.c2))
   all_goals (go_wp2_with fail;go_meet;exact⟨_,_,cp⟩)
  case rest=>
   obtain⟨aq,cap',aS⟩:=hcut
   have cf:(vs++[eK 1 co 0 0 0]).length=vs.length+1:=by simp
   generalize aB:vs++[eK 1 _ 0 0 0]=p at aS be cf
   clear aZ ax aU aB HL
   have aZ:=aS.o.g.c0
   have ax:=aS.o.g.c1
   have aU:=aS.o.g.c2
   obtain⟨_,bn,aX,bb,bz,bo,bw⟩:=aS.o.b
   have G:E _:=λW=>jO W R (some ⟨aq,0,none⟩) aa Z aH _ cap' ab Y (show p.length<=1000000 by have:=bB.o;have:=cf;omega)
   rw[show(p.length:Int)-1=(vs.length:Nat) by omega]at G
   clear cf
   go_wp2_with fail
   go_region_with (first
    |(go_at_call 47;refine yaj (G.o _) ?_;rintro e aF ⟨rfl,aR⟩;clear bn aX bb bz bo bw;have aY:=(aS.o.keep ((eG _).trans aR)).g.c0;have aC:=(aS.o.keep ((eG _).trans aR)).g.c1;have aL:=(aS.o.keep ((eG _).trans aR)).g.c2;obtain⟨_,bn,aX,bb,bz,bo,bw⟩:=(aS.o.keep ((eG _).trans aR)).b))
   all_goals
    have ea:E _:=aS.o.a4
    have R1:E _:=aS.o.fin ((eG _).trans aR)
    obtain⟨ba,aP,y2⟩:=fp _ _ _ _ _ bn aX bb (.slice R Z aH) (hz aq p.length cap') (.slice aa ab Y)
    go_wp2_with fail
    refine yaz (v:=.tuple #[eZ R Z aH (some ⟨aq,0,none⟩) p.length cap' aa ab Y,hA vs.length]) (by simp[results,results134,go_sem,ba,aP,y2]) rfl ⟨?_,R1.o.2⟩
    rw[be.o]
    exact⟨_,_,_,_,_,_,rfl,R1.o.1.1,R1.o.1.2.1,R1.o.1.2.2,ea.o⟩):Zp:=h
open g in
theorem xP(w Q ae aN Z c1 n2 c2 ab c3 s x ins vs outs)(f:GS w Q Z (some ⟨aN,0,none⟩) n2 ae ab ins vs outs)(cW:VA w aN n2 vs)(b8:Z<=1000000)(cg:n2<=2000)(cO:ab<=1000000)(bV:(List.range n2).all (okV ins vs)=true)(cT:eU vs<=50000)(au:s<n2)(an:x<n2)(ar:(jg vs x (s-x)).getD s false=false):
  Calls prog 134 #[eZ Q Z c1 (some ⟨aN,0,none⟩) n2 c2 ae ab c3,hA s,hA x] w λe B=>vD w B Z ab ins outs (grM vs s x) e/\Kept 0 0 w B:=by
 have be:E (grM vs s x=(vs++[eK 1 (vs.getD x hF).len 0 0 0],(vs.length:Int))):=by
  show _=_;unfold grM;rw[hC (by rw[ar];simp)]
 exact qdj
