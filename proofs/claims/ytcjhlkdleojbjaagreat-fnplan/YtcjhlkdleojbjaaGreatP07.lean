import Derived.Test.YtcjhlkdleojbjaaGreatP04
import Derived.Test.YtcjhlkdleojbjaaGreatP05
namespace Go.Proofs.Z
variable{Zp:Prop}
open Tryz Go.RowKit Flt
set_option maxRecDepth 1000000
set_option maxHeartbeats 0
section
attribute[local go_sem] eF eE eD
variable{aA w I bj B:World}{S:Nat->Prop}{base lo e g hi p k l lo' m n h hi' b off:Nat}{xs ins:List Int}{bE R aS u:Value}{vs:List Vl}{a:Option Addr}
def IR(w:World)(g:Nat)(xs:List Int):Prop:=w.heap[g]? =some (.cells (xs.map (Value.int .i64)).toArray 3 (0,0))
theorem IR.lt(h:IR w g xs):g<w.heap.size:=by
 grind[IR]
theorem IR.cell(h:IR w g xs)(k)(O:k<xs.length):w.cell? ⟨g,k,none⟩=some (hA (xs.getD k 0)):=by
 rw[cell_of_row w g k _ _ _ h];grind
theorem IR.free(h:IR w g xs)(k):w.frozen? ⟨g,k,none⟩=false:=frozen_of_row w g k _ _ h
theorem IR.keep(f:IR w g xs)(k:Kept l h w B)(aK:g<l\/h<=g\/h<=l):IR B g xs:=by
 unfold IR;rw[k.block g f.lt xaa];exact f
theorem IR.set(h:IR w g xs)(k x):IR (w.setCell ⟨g,k,none⟩ (hA x)) g (xs.set k x):=by
 unfold IR at h⊢;exact qcw
theorem IR.is(h:IR w g xs):IS w 0 w.heap.size (some ⟨g,0,none⟩) xs.length xs:=
 ⟨rfl,.inr ⟨g,0,rfl,yae,h.lt,h.lt,λk O=>by rw[Nat.zero_add];exact h.cell k O⟩⟩
theorem IR.made(w:World)(n):IR (w.alloc (.cells (madeCells #[hA 0] n) 3)) w.heap.size (List.replicate n 0):=by
 unfold IR;rw[heap_alloc_new]
 have:(madeCells #[hA 0] n)=(List.map (Value.int .i64) (List.replicate n 0)).toArray:=by
  apply Array.toList_inj.1;rw[toList_madeCells_one];simp
 rw[this]
theorem pX:(prog.info? 3).map (λi=>(i.zero,i.size,i.bytes))=some (some (hA 0),1,8):=by kernel_rfl
theorem Dg(xs bJ:List Int)(k)(O:k<xs.length)(af:bJ.length=xs.length):
  (xs.take k++bJ.drop k).set k (xs.getD k 0)=xs.take (k+1)++bJ.drop (k+1):=by
 apply List.ext_getElem?;intro i;simp only[List.getElem?_set,yal,List.length_take,List.length_drop,List.getElem?_append,List.getElem?_take,List.getElem?_drop,yai];rcases Nat.lt_trichotomy i k with h|h|h
 ·rw[hC xaa,hD xaa,hD xaa,hD xaa,hD xaa]
 ·subst h;rw[hD rfl,hD xaa,hD xaa,hD xaa,yam O];rfl
 rw[hC xaa,hC xaa,hC xaa];congr 1;omega
theorem wD(n:Nat)(w)(ad:n<=1099511627776):
  (Instr.makeSlice 23 (hA n) (hA n)).run prog w=.ok (hz w.heap.size n n) (w.alloc (.cells (madeCells #[hA 0] n) 3)):=by
 obtain⟨i,hi,b4,b3,b0⟩:=info_parts pX;have:=run_make w 23 3 i _ underlying23 hi b4 .i64 .i64 n n xaa xaa (by grind) xaa;exact qbr
theorem JR(h:∀v∈vs,v.k<18446744073709551616)(k):(vs.getD k hF).k<18446744073709551616:=by
 rw[yai];by_cases O:k<vs.length
 ·simp_all
 exact xhm
abbrev eZ(a1:Option Addr)(n1 c1:Nat)(a2:Option Addr)(n2 c2:Nat)(a3:Option Addr)(n3 c3:Nat):Value:=.agg #[.slice a1 n1 c1,.slice a2 n2 c2,.slice a3 n3 c3]
structure GS(w:World)(a1:Option Addr)(n1:Nat)(a2:Option Addr)(n2:Nat)(a3:Option Addr)(n3:Nat)(ins:List Int)(vs:List Vl)(outs:List Int):Prop where
 i:IS w 0 w.heap.size a1 n1 ins
 v:VS w 0 w.heap.size a2 n2 vs
 o:IS w 0 w.heap.size a3 n3 outs
theorem IS.mono(f:IS w lo hi a n xs)(F:lo'<=lo)(N:hi<=hi'):IS w lo' hi' a n xs:=
 ⟨f.len,by
  rcases f.at_ with al|⟨g,off,e,a1,U,a3,a4⟩<;>grind⟩
theorem VS.mono(f:VS w lo hi a n vs)(F:lo'<=lo)(N:hi<=hi'):VS w lo' hi' a n vs:=
 ⟨f.len,f.lt,by
  rcases f.at_ with al|⟨g,off,e,a1,U,a3,a4⟩<;>grind⟩
theorem GS.keep{a1 U a3 Z n2 ab outs}(f:GS w a1 Z U n2 a3 ab ins vs outs)(k:Kept 0 0 w B):GS B a1 Z U n2 a3 ab ins vs outs:=
 ⟨(f.i.keep k yaa).mono yad k.size,(f.v.keep k yaa).mono yad k.size,(f.o.keep k yaa).mono yad k.size⟩
structure IE(w:World)(g:Nat)(xs:List Int):Prop where
 lt:g<w.heap.size
 cell:∀k,k<xs.length->w.cell? ⟨g,k,none⟩=some (.int .i64 (xs.getD k 0))
theorem IE.keep(f:IE w g xs)(k:Kept l h w B)(aK:g<l\/h<=g\/h<=l):IE B g xs:=
 ⟨yak f.lt k.size,λj hj=>by rw[k.cell f.lt (by show ¬(l<=g/\g<h);omega)];exact f.cell j hj⟩
theorem bS.qcp(h:Zp:=by
 exact((k _ _ _).trans (k _ _ _)).trans (k _ _ _)):Zp:=h
open bS in
theorem ft(w g x y z):Kept g (g+1) w (((w.setCell ⟨g,0,none⟩ x).setCell ⟨g,1,none⟩ y).setCell ⟨g,2,none⟩ z):=by
 exact qco
theorem pY(w W)(k:Kept 0 0 w W)(g o v)(h:w.heap.size<=g):Kept 0 0 w (W.setCell ⟨g,o,none⟩ v):=
 k.new (eR (lo:=g) (hi:=g+1) W ⟨g,o,none⟩ v yac) h
def iU(op:Int):Bool:=decide (op=11\/op=12)
theorem FI(op w):Calls prog 93 #[hA op] w λe B=>e=.returned (.bool (iU op))/\B=w:=by
 by_cases F:op=11
 ·subst F;exact xfw
 by_cases N:op=12
 ·subst N;exact xfw
 rw[show iU op=false from yay xaa];have aX:(op==11)=false:=yan F;have bb:(op==12)=false:=yan N;clear F N;exact xfw
def fW(v:Vl):Bool:=!(((decide (cnt v.op<1)&&v.op !=0)&&v.a !=0)||(decide (cnt v.op<2)&&v.b !=0)||((decide (cnt v.op<3)&&!iU v.op)&&v.c !=0))
theorem Dh(w op len A J C K n)(ad:n<=3)(p)(HC:E (∀w,Calls prog 62 #[hA op] w λe B=>e=.returned (hA (n:Nat))/\B=w))
  (bL:E (∀w,Calls prog 93 #[hA op] w λe B=>e=.returned (.bool p)/\B=w)):
  Calls prog 64 #[lN op len A J C K] w λe B=>e=.returned (.bool (!(((decide (n<1)&&op !=0)&&A !=0)||(decide (n<2)&&J !=0)||((decide (n<3)&&!p)&&C !=0))))/\Kept 0 0 w B:=by
 rcases (by omega:n=0\/n=1\/n=2\/n=3) with rfl|rfl|rfl|rfl
 all_goals
  go_enter func64,ntmps64
  go_wp2_with (first|(go_at_call 62;refine(HC.o _).mono ?_;rintro e ag ⟨rfl,rfl⟩)|(go_at_call 93;refine(bL.o _).mono ?_;rintro e ag ⟨rfl,rfl⟩))
  all_goals
   go_ret
   exact⟨by simp_all,ez _ _ _ _⟩
theorem mb(w v):Calls prog 64 #[v.agg] w λe B=>e=.returned (.bool (fW v))/\Kept 0 0 w B:=
 Dh w v.op v.len v.a v.b v.c v.k (cnt v.op) (fI _) (iU v.op) (λw=>mU _ w) (λw=>FI _ w)
def fe(v:Vl):List Int:=[v.a,v.b,v.c].take (cnt v.op)
theorem oO(v):(fe v).length=cnt v.op:=by
 have:=fI v.op;simp[fe];omega
theorem pD(w v):Calls prog 61 #[v.agg] w λe B=>∃g,e=.returned (hz g (cnt v.op) 3)/\IS B w.heap.size B.heap.size (some ⟨g,0,none⟩) (cnt v.op) (fe v)/\g+1=B.heap.size/\Kept 0 0 w B:=by
 have G:=fI v.op;have aM:E _:=(wz (w.alloc (fH v.op v.len v.a v.b v.c v.k)) v.a v.b v.c).prefix _ G;have HC:E _:=mU v.op;generalize ap:cnt _=q at aM HC G;have bE:(0:Int)<=q:=xaa;have R:(q:Int)<=3:=xaa;go_enter func61,ntmps61;go_wp2_with fail
 go_region_held3 (λB=>B.cell? ⟨w.heap.size,0,none⟩=some (hA v.op)/\B.cell? ⟨w.heap.size,2,none⟩=some (hA v.a)/\B.cell? ⟨w.heap.size,3,none⟩=some (hA v.b)/\B.cell? ⟨w.heap.size,4,none⟩=some (hA v.c)) (go_keep)
  ((go_at_call 62;refine(HC.o _).mono ?_;rintro e ag ⟨rfl,rfl⟩))
 all_goals
  go_wp2
  go_ret
  have F:(w.alloc (fH v.op v.len v.a v.b v.c v.k)).heap.size=w.heap.size+1:=by simp
  have f:=aM.o
  rw[F]at f
  refine⟨_,rfl,⟨f.len.trans rfl |> λe=>by rw[fe,ap];exact e,?_⟩,?_,?_⟩
  ·rcases f.at_ with al|⟨g,off,e,a1,U,a3,a4⟩
   ·exact .inl al
   ·cases e
    refine .inr ⟨_,_,rfl,Nat.le_succ _,?_,?_,λk O=>?_⟩
    ·exact a3
    ·exact a3
    ·rw[fe,ap];exact a4 k O
  ·show w.heap.size+1+1=((w.alloc _).alloc _).heap.size
   simp
  ·exact((ez 0 0 w _).trans (ez 0 0 _ _)).trans (eJ 0 0 _ 1)
def okV(ins:List Int)(vs:List Vl)(i:Nat):Bool:=
 (lenB (vs.getD i hF).len&&fW (vs.getD i hF))&&
  (if (vs.getD i hF).op=0 then fR (vs.getD i hF).a ins.length&&(vs.getD i hF).len==ins.getD (vs.getD i hF).a.toNat 0
   else (fe (vs.getD i hF)).all (fR · i)&&eV (vs.getD i hF).op (vs.getD i hF).len (vs.getD i hF).c ((fe (vs.getD i hF)).map λo=>(vs.getD o.toNat hF).len))
abbrev e9(a1:Option Addr)(n1 c1:Nat)(a2:Option Addr)(n2 c2:Nat)(a3:Option Addr)(n3 c3:Nat):Obj:=.cells #[.slice a1 n1 c1,.slice a2 n2 c2,.slice a3 n3 c3] 26
theorem sR(w a1 a3 Z c1 n2 c2 ab c3 aN bT i v)(aJ:aN<w.heap.size)(hi:i<n2)(a7:At w aN (bT+i*6) v)(af:lenB v.len=false):
  Calls prog 55 #[eZ a1 Z c1 (some ⟨aN,bT,none⟩) n2 c2 a3 ab c3,hA i] w λe B=>e=.returned (.bool false)/\Kept 0 0 w B:=by
 have bA:E (∀w,Calls prog 34 #[hA v.len] w λe B=>e=.returned (.bool false)/\B=w):=λw=>by
  have:=fD v.len w
  rw[af]at this
  exact this
 clear af;have aI:=ez 0 0 w (e9 a1 Z c1 (some ⟨aN,bT,none⟩) n2 c2 a3 ab c3);obtain⟨b9,ae,a9,ai,e4,b7⟩:=a7.keep aJ aI yaa;clear a7 aI;go_enter func55,ntmps55;go_wp2_with (go_at_call 34;refine(bA.o _).mono ?_;rintro e ag ⟨rfl,rfl⟩);go_ret;exact⟨rfl,(ez 0 0 w _).trans (ez 0 0 _ _)⟩
theorem sS(w a1 a3 Z c1 n2 c2 ab c3 aN bT i v)(aJ:aN<w.heap.size)(hi:i<n2)(a7:At w aN (bT+i*6) v)(af:lenB v.len=true)(au:fW v=false):
  Calls prog 55 #[eZ a1 Z c1 (some ⟨aN,bT,none⟩) n2 c2 a3 ab c3,hA i] w λe B=>e=.returned (.bool false)/\Kept 0 0 w B:=by
 have bA:E (∀w,Calls prog 34 #[hA v.len] w λe B=>e=.returned (.bool true)/\B=w):=λw=>by
  have:=fD v.len w
  rw[af]at this
  exact this
 have aW:E (∀w,Calls prog 64 #[v.agg] w λe B=>e=.returned (.bool false)/\Kept 0 0 w B):=λw=>by
  have:=mb w v
  rw[au]at this
  exact this
 clear af au;have aI:=ez 0 0 w (e9 a1 Z c1 (some ⟨aN,bT,none⟩) n2 c2 a3 ab c3);obtain⟨b9,ae,a9,ai,e4,b7⟩:=a7.keep aJ aI yaa;clear a7 aI;go_enter func55,ntmps55;go_wp2_with (first|(go_at_call 34;refine(bA.o _).mono ?_;rintro e ag ⟨rfl,rfl⟩)|(go_at_call 64;refine(aW.o _).mono ?_;rintro e ag ⟨rfl,bP⟩));go_ret;exact⟨rfl,((ez 0 0 w _).trans (ez 0 0 _ _)).trans bP⟩
structure GB(W:World)(p:Nat)(b0 b1 b2:Value)(v:Vl):Prop where
 sz:p+1<W.heap.size
 q0:W.cell? ⟨p,0,none⟩=some b0
 q1:W.cell? ⟨p,1,none⟩=some b1
 q2:W.cell? ⟨p,2,none⟩=some b2
 vt:At W (p+1) 0 v
theorem GB.keep{W v}(t:GB W p bE R aS v)(k:Kept 0 0 W I):GB I p bE R aS v:=by
 have e:∀g o,g<=p+1->_:=λg o h=>k.cell (p:=⟨g,o,none⟩) (Nat.lt_of_le_of_lt h t.sz) xaa;exact⟨yak t.sz k.size,by rw[e _ _ xaa];exact t.q0,by rw[e _ _ xaa];exact t.q1,by rw[e _ _ xaa];exact t.q2,t.vt.keep t.sz k yaa⟩
theorem pZ(w:World)(bE R aS v):GB ((w.alloc (.cells #[bE,R,aS] 26)).alloc (fH v.op v.len v.a v.b v.c v.k)) w.heap.size bE R aS v:=by
 have F:(w.alloc (.cells #[bE,R,aS] 26)).heap.size=w.heap.size+1:=by simp
 refine⟨?_,?_,?_,?_,?_,?_,?_,?_,?_,?_⟩;all_goals first|(go_simp;done)|(simp;done)
theorem aG.qbk(h:Zp:=by
 have aY:=aB.q0;have bS:=aB.vt.c0;have aH:=aB.vt.c1;have bf:=aB.vt.c2;have c1:=iD F aa c0;have aK:E _:=F;simp only at bS aH bf;clear F aB aV c0 b9 ae a9 ai e4 b7;have bm:0<=(j:Int):=xaa;have aO:(j:Int)<Z:=xaa;exact xfp):Zp:=h
theorem aG.qev(h:Zp:=by
 have aM:E (∀w,Calls prog 56 #[hA j,hA Z] w λe B=>e=.returned (.bool true)/\B=w):=λw=>by
  have:=hY (j:Int) Z w
  rw[show fR (j:Int) Z=true from decide_eq_true a2]at this
  exact this
 clear a2;rcases f.at_ with al|⟨aq,cn,rfl,R,aS,aa,bi⟩
 ·omega
 have c0:=bi j hj;clear bi f R aS;generalize ins.getD j 0=y at c0⊢;exact qbj):Zp:=h
open aG in
theorem sU(w a1 a3 Z c1 n2 c2 ab c3 aN bT i len A J C K ins)(f:IS w 0 w.heap.size a1 Z ins)(aJ:aN<w.heap.size)(hi:i<n2)(a7:At w aN (bT+i*6) ⟨0,len,A,J,C,K⟩)(af:lenB len=true)(au:fW ⟨0,len,A,J,C,K⟩=true):
  Calls prog 55 #[eZ a1 Z c1 (some ⟨aN,bT,none⟩) n2 c2 a3 ab c3,hA i] w λe B=>e=.returned (.bool (fR A Z&&len==ins.getD A.toNat 0))/\Kept 0 0 w B:=by
 have bA:E (∀w,Calls prog 34 #[hA len] w λe B=>e=.returned (.bool true)/\B=w):=λw=>by
  have:=fD len w
  rw[af]at this
  exact this
 have aW:E (∀w,Calls prog 64 #[lN 0 len A J C K] w λe B=>e=.returned (.bool true)/\Kept 0 0 w B):=λw=>by
  have:=mb w ⟨0,len,A,J,C,K⟩
  rw[au]at this
  exact this
 clear af au;have aI:=ez 0 0 w (e9 a1 Z c1 (some ⟨aN,bT,none⟩) n2 c2 a3 ab c3);obtain⟨b9,ae,a9,ai,e4,b7⟩:=a7.keep aJ aI yaa;have P:E _:=aI.trans (ez 0 0 _ (fH 0 len A J C K));have aT:E _:=pZ w (.slice a1 Z c1) (.slice (some ⟨aN,bT,none⟩) n2 c2) (.slice a3 ab c3) ⟨0,len,A,J,C,K⟩;clear a7 aI;simp only at b9 ae a9 ai e4 b7;by_cases a2:0<=A/\A<Z
 ·exact qeu
 rw[show fR A Z=false from yay a2,Bool.false_and]
 have aM:E (∀w,Calls prog 56 #[hA A,hA Z] w λe B=>e=.returned (.bool false)/\B=w):=λw=>by
  have:=hY A Z w
  rw[show fR A Z=false from yay a2]at this
  exact this
 clear a2;go_enter func55,ntmps55;go_wp2_with (first|(go_at_call 34;refine(bA.o _).mono ?_;rintro e ag ⟨rfl,rfl⟩)|fail);refine(aW.o _).mono ?_;rintro e aF ⟨rfl,aV⟩;have F:=P.o.trans aV;have aB:=aT.o.keep aV;have aY:=aB.q0;have bS:=aB.vt.c0;have aH:=aB.vt.c1;have bf:=aB.vt.c2;have aK:E _:=F;simp only at bS aH bf;clear F aB aV b9 ae a9 ai e4 b7;exact xfp
theorem lG{p}(O:k<xs.length)(h:(xs.take k).all p=true)(t:p (xs.getD k 0)=true):(xs.take (k+1)).all p=true:=by
 rw[yau O,List.all_append,h];exact xhz
theorem mF{p}(O:k<xs.length)(t:p (xs.getD k 0)=false):xs.all p=false:=by
 rw[yai,yam O]at t;rw[List.all_eq_false];exact⟨_,List.getElem_mem _,by simpa using t⟩
theorem Di{f:Int->Int}(O:k<xs.length):(xs.map f).getD k 0=f (xs.getD k 0):=by
 simp[List.getD_eq_getElem?_getD,List.getElem?_eq_getElem O]
theorem aH.qbk(h:Zp:=by
 obtain⟨bS,aH,bf,Y,bC,bZ⟩:=aB.vt;have aK:E _:=F;have cj:E _:=aB;clear F aB aV aT P b9 ae a9 ai e4 b7;simp only[Nat.zero_add]at aH bf Y bC bZ;go_wp2_with fail;refine(pD _ v).mono ?_;rintro e bc ⟨G,rfl,x,bg,X⟩;have bO:E _:=aK.o.trans X;have K:E _:=cj.o.keep X;have be:E (G+1=bc.heap.size):=bg;clear aK cj X bS aH bf Y bC bZ bg;have ap:cnt v.op<=3:=fI _;have am:=wD (cnt v.op) bc xaa;have J:=IR.made bc (cnt v.op);have N:=ez 0 0 bc (.cells (madeCells #[hA 0] (cnt v.op)) 3);have s:E ((fe v).length=cnt v.op):=oO v;have HF:E (∀W a cap xs,IS W 0 W.heap.size a (cnt v.op) xs->Calls prog 65 #[v.agg,.slice a (cnt v.op) cap] W λe B=>e=.returned (.bool (eV v.op v.len v.c xs))/\Kept 0 0 W B):=λW a cap xs f=>mE W v.op v.len v.a v.b v.c v.k 0 W.heap.size a (cnt v.op) cap xs f rfl;generalize cnt v.op=q at ap am J N s HF x;generalize d4:fe v=bG at s x;have ej:E (fe v=bG):=d4;clear d4;generalize ba:bc.alloc (.cells (madeCells #[hA 0] q) 3)=bp at am J N;clear ba;go_wp2_with fail;clear am;have C:E ((bG.map λo:Int=>(vs.getD o.toNat hF).len).length=q):=by show(bG.map _).length=q;rw[List.length_map];exact s.o
 have ad:E (∀k,k<q->(bG.map λo:Int=>(vs.getD o.toNat hF).len).getD k 0=(vs.getD (bG.getD k 0).toNat hF).len):=λk O=>Di (hL s.o O);have ak:E _:=x;go_loopw [51] (λav W=>∃k:Nat,k<=q/\av=hA k/\E ((bG.take k).all (fR · i)=true)/\IR W bc.heap.size ((bG.map λo:Int=>(vs.getD o.toNat hF).len).take k++(List.replicate q 0).drop k)/\Kept 0 0 bc W) (λav _=>q-(intOf av).toNat)
 case atStart=>exact⟨0,yae,rfl,rfl,by simpa using J,N⟩
 case round=>
  obtain⟨k,O,rfl,a2,aX,z⟩:=hrel;clear J N;by_cases aG:k<q
  ·rcases x.at_ with bD|⟨az,bv,b5,aQ,a8,bi,bk⟩
   ·omega
   cases b5;have c1:=iD z bi (bk k aG);rw[Nat.zero_add]at c1;clear bk aQ a8 bi x;by_cases an:fR (bG.getD k 0) i=true
   ·have aj:=of_decide_eq_true an;obtain⟨j,hj⟩:∃j:Nat,bG.getD k 0=j:=⟨(bG.getD k 0).toNat,by omega⟩
    have ah:E _:=lG (p:=(fR · i)) (hL s.o aG) a2.o an;have U:=ad.o k aG;rw[hj]at c1 an aj U;rw[Int.toNat_natCast]at U;have aw:j<i:=xaa
    have aM:E (∀w,Calls prog 56 #[hA j,hA i] w λe B=>e=.returned (.bool true)/\B=w):=λw=>by
     have:=hY (j:Int) i w
     rw[an]at this
     exact this
    have u:=(iD (bO.o.trans z) aJ (bl.o j xaa).c1)
    have aC:=(K.o.keep z).q1;have ax:=aX.free k;have aP:((bG.map λo:Int=>(vs.getD o.toNat hF).len).take k++(List.replicate q 0).drop k).length=q:=by rw[yal,List.length_take,List.length_drop,C.o,List.length_replicate];omega
    have aU:=aX.cell k xaa;rw[<-U]at u;have R1:E _:=aX.set k ((bG.map λo:Int=>(vs.getD o.toNat hF).len).getD k 0);have R2:E _:=z.new (eR (lo:=bc.heap.size) (hi:=bc.heap.size+1) wr ⟨bc.heap.size,k,none⟩ (hA ((bG.map λo:Int=>(vs.getD o.toNat hF).len).getD k 0)) yac) yad;have R3:E _:=Dg (bG.map λo:Int=>(vs.getD o.toNat hF).len) (List.replicate q 0) k (hL C.o aG) (by rw[C.o];simp);generalize (bG.map λo:Int=>(vs.getD o.toNat hF).len).getD k 0=y at u R1 R2 R3;clear U aX z aP an aj hj a2;go_wp2_with ((go_at_call 56;refine(aM.o _).mono ?_;rintro e ag ⟨rfl,rfl⟩));go_roundw
    case rel=>
     refine⟨k+1,by omega,by go_num,ah,?_,R2.o⟩;have:=R1.o;rw[R3.o]at this;exact this
    case measure=>simp[intOf];omega
   have aj:fR (bG.getD k 0) i=false:=by simpa using an
   have H:E (bG.all (fR · i)=false):=mF (hL s.o aG) aj
   have aM:E (∀w,Calls prog 56 #[hA (bG.getD k 0),hA i] w λe B=>e=.returned (.bool false)/\B=w):=λw=>by
    have:=hY (bG.getD k 0) i w
    rw[aj]at this
    exact this
   have R2:E _:=bO.o.trans z;clear an aj z aX a2;go_wp2_with ((go_at_call 56;refine(aM.o _).mono ?_;rintro e ag ⟨rfl,rfl⟩));go_ret;exact⟨by rw[ej.o,H.o];rfl,R2.o⟩
  obtain rfl:k=q:=xaa
  have H:E (bG.all (fR · i)=true):=by
   have:=a2.o;rw[yap (hN s.o)]at this;exact this
  have aa:IR wr bc.heap.size (bG.map λo:Int=>(vs.getD o.toNat hF).len):=by
   rw[yap (hN C.o),List.drop_of_length_le xac,List.append_nil]at aX;exact aX
  have aM:=aa.is;rw[C.o]at aM;have bu:E _:=λcap=>HF.o wr _ cap _ aM;have R2:E _:=bO.o.trans z;obtain⟨bS,aH,bf,Y,bC,bZ⟩:=(K.o.keep z).vt;simp only[Nat.zero_add]at aH bf Y bC bZ;clear aM aa aX a2 z x;go_wp2_with fail;refine(bu.o _).mono ?_;rintro e bj ⟨rfl,r⟩;have R3:E _:=R2.o.trans r;clear r bS aH bf Y bC bZ;go_wp2;go_ret;exact⟨by rw[ej.o,H.o];rfl,R3.o⟩):Zp:=h
open aH in
theorem wE(w a1 a3 Z c1 n2 c2 ab c3 aN bT i v)(vs:List Vl)(aJ:aN<w.heap.size)(hi:i<n2)
  (Q:∀k,k<n2->At w aN (bT+k*6) (vs.getD k hF)) (aO:vs.getD i hF=v) (af:lenB v.len=true) (au:fW v=true) (al:v.op≠0):
  Calls prog 55 #[eZ a1 Z c1 (some ⟨aN,bT,none⟩) n2 c2 a3 ab c3,hA i] w λe B=>e=.returned (.bool ((fe v).all (fR · i)&&eV v.op v.len v.c ((fe v).map λo=>(vs.getD o.toNat hF).len)))/\Kept 0 0 w B:=by
 have bA:E (∀w,Calls prog 34 #[hA v.len] w λe B=>e=.returned (.bool true)/\B=w):=λw=>by
  have:=fD v.len w
  rw[af]at this
  exact this
 have aW:E (∀w,Calls prog 64 #[v.agg] w λe B=>e=.returned (.bool true)/\Kept 0 0 w B):=λw=>by
  have:=mb w v
  rw[au]at this
  exact this
 clear af au;have aI:=ez 0 0 w (e9 a1 Z c1 (some ⟨aN,bT,none⟩) n2 c2 a3 ab c3);have a7:=Q i hi;rw[aO]at a7;have bl:E (∀k,k<n2->At w aN (bT+k*6) (vs.getD k hF)):=Q;clear Q aO;obtain⟨b9,ae,a9,ai,e4,b7⟩:=a7.keep aJ aI yaa;have P:E _:=aI.trans (ez 0 0 _ (fH v.op v.len v.a v.b v.c v.k));have aT:E _:=pZ w (.slice a1 Z c1) (.slice (some ⟨aN,bT,none⟩) n2 c2) (.slice a3 ab c3) v;clear a7 aI;have bn:(v.op==0)=false:=yan al;clear al;exact qbj
theorem FJ(w a1 U a3 Z c1 n2 c2 ab c3 i ins vs outs)(f:GS w a1 Z U n2 a3 ab ins vs outs)(hi:i<n2):
  Calls prog 55 #[eZ a1 Z c1 U n2 c2 a3 ab c3,hA i] w λe B=>e=.returned (.bool (okV ins vs i))/\Kept 0 0 w B:=by
 rcases f.v.at_ with al|⟨aN,bT,rfl,R,aS,aa,bi⟩
 ·omega
 have a7:=bi i hi;unfold okV;generalize aO:vs.getD i hF=v at a7;cases af:lenB v.len
 ·exact sR w a1 a3 Z c1 n2 c2 ab c3 aN bT i v aa hi a7 af
 cases au:fW v
 ·exact sS w a1 a3 Z c1 n2 c2 ab c3 aN bT i v aa hi a7 af au
 by_cases al:v.op=0
 ·rw[hD al,f.i.len];obtain⟨op,len,A,J,C,K⟩:=v;simp only at al;subst al;exact sU w a1 a3 Z c1 n2 c2 ab c3 aN bT i len A J C K ins f.i aa hi a7 af au
 rw[hC al];exact wE w a1 a3 Z c1 n2 c2 ab c3 aN bT i v vs aa hi bi aO af au al
def eU:List Vl->Int
 |[]=>0
 |v::vs=>v.len+eU vs
def okG(ins:List Int)(vs:List Vl)(outs:List Int):Bool:=
 decide (ins.length<=20/\vs.length<=2000/\outs.length<=50)&&(ins.all lenB&&((List.range vs.length).all (okV ins vs)&&(outs.all (fR · vs.length)&&decide (eU vs<=50000))))
theorem uJ(xs v):eU (xs++[v])=eU xs+v.len:=by
 induction xs<;>grind[eU]
theorem me(O:k<vs.length):eU (vs.take (k+1))=eU (vs.take k)+(vs.getD k hF).len:=by
 rw[yau O,uJ,yai,yam O];rfl
theorem jh{p}(h:(List.range k).all p=true)(t:p k=true):(List.range (k+1)).all p=true:=by
 rw[List.range_succ,List.all_append,h];simpa using t
theorem kz{p}(O:k<n)(t:p k=false):(List.range n).all p=false:=by
 rw[List.all_eq_false];exact⟨k,List.mem_range.2 O,by simpa using t⟩
theorem fU{i}(h:okV ins vs i=true):1<=(vs.getD i hF).len/\(vs.getD i hF).len<=1000:=by
 unfold okV at h;rw[Bool.and_eq_true,Bool.and_eq_true]at h;exact of_decide_eq_true h.1.1
structure G0(W:World)(p:Nat)(b0 b1 b2:Value):Prop where
 sz:p<W.heap.size
 q0:W.cell? ⟨p,0,none⟩=some b0
 q1:W.cell? ⟨p,1,none⟩=some b1
 q2:W.cell? ⟨p,2,none⟩=some b2
theorem G0.keep{W}(t:G0 W p bE R aS)(k:Kept 0 0 W I):G0 I p bE R aS:=
 ⟨yak t.sz k.size,iD k t.sz t.q0,iD k t.sz t.q1,iD k t.sz t.q2⟩
theorem fB(w:World)(bE R aS):G0 (w.alloc (.cells #[bE,R,aS] 26)) w.heap.size bE R aS:=by
 refine⟨?_,?_,?_,?_⟩;all_goals first|(go_simp;done)|(simp;done)
theorem bP.qcn(h:Zp:=by
 have HF:E _:=f.keep aI.o;have a5:E (ins.length=Z):=f.i.len;have j:E (vs.length=n2):=f.v.len;have bh:E (outs.length=ab):=f.o.len;clear f;go_enter func25,ntmps25;go_wp2_with fail;generalize bA:w.alloc (.cells #[.slice a1 Z c1,.slice U n2 c2,.slice a3 ab c3] 26)=aA at aI aT HF⊢;clear bA;go_loop [29] (λi=>∃k:Nat,k<=Z/\i=hA k/\E ((ins.take k).all lenB=true)) (λi=>Z-(intOf i).toNat)
 case atStart=>exact⟨0,yae,rfl,rfl⟩
 case round=>
  obtain⟨k,O,rfl,a2⟩:=hrel;by_cases aG:k<Z
  ·rcases HF.o.i.at_ with bD|⟨az,bv,b5,aQ,a8,bi,bk⟩
   ·omega
   have c:=bk k aG;subst b5;clear aQ a8 bi bk;cases an:lenB (ins.getD k 0)
   ·have H:E (ins.all lenB=false):=mF (hL a5.o aG) an
    have aM:E (∀w,Calls prog 34 #[hA (ins.getD k 0)] w λe B=>e=.returned (.bool false)/\B=w):=λw=>by
     have:=fD (ins.getD k 0) w
     rw[an]at this
     exact this
    generalize ins.getD k 0=y at c aM;clear an a2;go_wp2_with ((go_at_call 34;refine(aM.o _).mono ?_;rintro e ag ⟨rfl,rfl⟩));go_ret;exact⟨hO H.o,aI.o⟩
   have H:E _:=lG (p:=lenB) (hL a5.o aG) a2.o an
   have aM:E (∀w,Calls prog 34 #[hA (ins.getD k 0)] w λe B=>e=.returned (.bool true)/\B=w):=λw=>by
    have:=fD (ins.getD k 0) w
    rw[an]at this
    exact this
   generalize ins.getD k 0=y at c aM;clear an a2;go_wp2_with ((go_at_call 34;refine(aM.o _).mono ?_;rintro e ag ⟨rfl,rfl⟩));exact xca
  have R1:E (ins.all lenB=true):=by
   have:=a2.o;rw[yap (hN a5.o)]at this;exact this
  clear a2;have aC:=aT.q1;go_wp2_with fail;clear aC;go_loopw [5,40] (λc i W=>∃k:Nat,k<=n2/\i=hA k/\c=hA (eU (vs.take k))/\E (0<=eU (vs.take k)/\eU (vs.take k)<=1000*k)/\E ((List.range k).all (okV ins vs)=true)/\Kept 0 0 aA W) (λ_ i _=>n2-(intOf i).toNat)
  case atStart=>exact⟨0,yae,rfl,rfl,by constructor<;>simp[eU],rfl,Kept.refl _ _ _⟩
  case round=>
   obtain⟨ak,bP,rfl,rfl,hb,a2,z⟩:=hrel;by_cases cc:ak<n2
   ·rcases HF.o.v.at_ with bD|⟨az,bv,b5,aQ,a8,bi,bk⟩
    ·omega
    have a7:=(bk ak cc).keep bi z yaa;have ar:E _:=λo=>FJ (wr.alloc o) a1 U a3 Z c1 n2 c2 ab c3 ak ins vs outs (HF.o.keep (z.trans (ez 0 0 wr o))) cc;have Q:E _:=z;have b2:E _:=me (vs:=vs) (k:=ak) (hL j.o cc);clear aQ a8 bi bk z;cases an:okV ins vs ak
    ·have H:E ((List.range n2).all (okV ins vs)=false):=kz cc an;rw[an]at ar;generalize vs.getD ak hF=v at a7 b2;obtain⟨b9,ae,a9,ai,e4,b7⟩:=a7;obtain⟨_,aY,aC,aL⟩:=aT.keep (Q.o.trans (ez 0 0 wr (fH v.op v.len v.a v.b v.c v.k)));clear an a2 b2;subst b5;go_wp2_with ((go_at_call 55;refine(ar.o _).mono ?_;rintro e ag ⟨rfl,r⟩));go_ret;exact⟨by rw[R1.o,H.o];rfl,((aI.o.trans Q.o).trans (ez 0 0 _ _)).trans r⟩
    have H:E _:=jh a2.o an;have bg:E _:=fU an;rw[an]at ar;generalize vs.getD ak hF=v at a7 b2 bg;obtain⟨b9,ae,a9,ai,e4,b7⟩:=a7;obtain⟨_,aY,aC,aL⟩:=aT.keep (Q.o.trans (ez 0 0 wr (fH v.op v.len v.a v.b v.c v.k)));clear an a2;subst b5;go_wp2_with fail;refine(ar.o _).mono ?_;rintro e ag ⟨rfl,r⟩;have bq:ag.cell? ⟨wr.heap.size,1,none⟩=some (hA v.len):=iD r xac xac;have R2:E _:=(Q.o.trans (ez 0 0 _ _)).trans r;clear r aY aC aL b9 ae a9 ai e4 b7;have cI:-1000000000<=eU (vs.take ak)+v.len:=hK hb.o bg.o
    have ch:eU (vs.take ak)+v.len<=1000000000:=hK hb.o bg.o
    have aU:E (0<=eU (vs.take (ak+1))/\eU (vs.take (ak+1))<=1000*((ak+1:Nat):Int)):=by
     exact xil
    generalize G:eU (vs.take ak)=bV at cI ch b2;clear hb G;go_wp2;go_roundw;exact⟨ak+1,by omega,by go_num,by rw[b2.o],aU,H,R2.o⟩;simp[intOf];omega
   have R2:E ((List.range n2).all (okV ins vs)=true):=by
    have:=a2.o;rw[show ak=n2 by omega]at this;exact this
   have R3:E (eU (vs.take ak)=eU vs):=by
    show eU (vs.take ak)=eU vs;rw[yap (hN j.o)]
   have au:=aT.keep z;have bU:E _:=HF.o.keep z;have Q:E _:=aI.o.trans z;have aC:=au.q1;have aL:=au.q2;clear a2 z;go_wp2_with fail;go_loop [57] (λi=>∃k:Nat,k<=ab/\i=hA k/\E ((outs.take k).all (fR · n2)=true)) (λi=>ab-(intOf i).toNat)
   case atStart=>exact⟨0,yae,rfl,rfl⟩
   case round=>
    obtain⟨aR,aV,rfl,a2⟩:=hrel;by_cases ci:aR<ab
    ·rcases bU.o.o.at_ with bD|⟨az,bv,b5,aQ,a8,bi,bk⟩
     ·omega
     have c:=bk aR ci;subst b5;clear aQ a8 bi bk;cases an:fR (outs.getD aR 0) n2
     ·have H:E (outs.all (fR · n2)=false):=mF (hL bh.o ci) an
      have aM:E (∀w,Calls prog 56 #[hA (outs.getD aR 0),hA n2] w λe B=>e=.returned (.bool false)/\B=w):=λw=>by
       have:=hY (outs.getD aR 0) n2 w
       rw[an]at this
       exact this
      generalize outs.getD aR 0=y at c aM;clear an a2;go_wp2_with ((go_at_call 56;refine(aM.o _).mono ?_;rintro e ag ⟨rfl,rfl⟩));go_ret;exact⟨by rw[R1.o,R2.o,H.o];rfl,Q.o⟩
     have H:E _:=lG (p:=(fR · n2)) (hL bh.o ci) a2.o an
     have aM:E (∀w,Calls prog 56 #[hA (outs.getD aR 0),hA n2] w λe B=>e=.returned (.bool true)/\B=w):=λw=>by
      have:=hY (outs.getD aR 0) n2 w
      rw[an]at this
      exact this
     generalize outs.getD aR 0=y at c aM;clear an a2;go_wp2_with ((go_at_call 56;refine(aM.o _).mono ?_;rintro e ag ⟨rfl,rfl⟩));go_round
     case rel=>exact⟨aR+1,by omega,by go_num,H⟩
     case measure=>simp[intOf];omega
    have s:E (outs.all (fR · n2)=true):=by
     exact xhs
    clear a2;go_wp2;go_ret;exact⟨by rw[R1.o,R2.o,s.o,<-R3.o];rfl,Q.o⟩):Zp:=h
open bP in
theorem wG(w a1 U a3 Z c1 n2 c2 ab c3 ins vs outs)(f:GS w a1 Z U n2 a3 ab ins vs outs)(F:Z<=20)(N:n2<=2000)(h3:ab<=50):
  Calls prog 25 #[eZ a1 Z c1 U n2 c2 a3 ab c3] w λe B=>e=.returned (.bool (ins.all lenB&&((List.range n2).all (okV ins vs)&&(outs.all (fR · n2)&&decide (eU vs<=50000)))))/\Kept 0 0 w B:=by
 exact qcm
theorem rX(w a1 U a3 Z c1 n2 c2 ab c3)(h:¬(Z<=20/\n2<=2000/\ab<=50)):
  Calls prog 25 #[eZ a1 Z c1 U n2 c2 a3 ab c3] w λe B=>e=.returned (.bool false)/\Kept 0 0 w B:=by
 by_cases F:Z<=20
 ·by_cases N:n2<=2000
  ·have h3:50<ab:=xaa;clear h;go_enter func25,ntmps25;go_wp2;go_ret;exact⟨rfl,ez _ _ _ _⟩
  have h3:2000<n2:=xaa;clear h N;exact xhk
 have h3:20<Z:=xaa;clear h F;exact xhk
theorem Dj(w a1 U a3 Z c1 n2 c2 ab c3 ins vs outs)(f:GS w a1 Z U n2 a3 ab ins vs outs):
  Calls prog 25 #[eZ a1 Z c1 U n2 c2 a3 ab c3] w λe B=>e=.returned (.bool (okG ins vs outs))/\Kept 0 0 w B:=by
 unfold okG;rw[f.i.len,f.v.len,f.o.len];by_cases h:Z<=20/\n2<=2000/\ab<=50
 ·rw[decide_eq_true h,Bool.true_and];exact wG w a1 U a3 Z c1 n2 c2 ab c3 ins vs outs f h.1 h.2.1 h.2.2
 rw[yay h,Bool.false_and];exact rX w a1 U a3 Z c1 n2 c2 ab c3 h
structure Chg(S:Nat->Prop)(w w':World):Prop where
 os:w'.os=w.os
 tape:w'.tape=w.tape
 output:w'.output=w.output
 size:w.heap.size<=w'.heap.size
 block:∀k,k<w.heap.size->¬S k->w'.heap[k]? =w.heap[k]?
theorem Chg.cell(h:Chg S w B){p}(aM:p.block<w.heap.size)(ad:¬S p.block):B.cell? p=w.cell? p:=World.cell?_of_block (w:=w) (h.block p.block aM ad)
theorem Chg.frozen(h:Chg S w B){p}(aM:p.block<w.heap.size)(ad:¬S p.block):B.frozen? p=w.frozen? p:=World.frozen?_of_block (w:=w) (h.block p.block aM ad)
theorem Kept.chg(h:Kept 0 0 w B):Chg S w B:=⟨h.os,h.tape,h.output,h.size,λk O _=>h.block k O xaa⟩
theorem Chg.kept{C}(k:Kept 0 0 C w)(h:Chg S w B)(aW:∀i,S i->C.heap.size<=i):Kept 0 0 C B:=
 ⟨h.os.trans k.os,h.tape.trans k.tape,h.output.trans k.output,yao k.size h.size,λi hi _=>(h.block i (yak hi k.size) (λc=>by grind)).trans (k.block i hi xaa)⟩
def fF:List Vl->List Value
 |[]=>[]
 |v::r=>v.cells++fF r
theorem mf(a b):fF (a++b)=fF a++fF b:=by
 induction a<;>grind[fF]
theorem qb(v):fF [v]=v.cells:=by simp[fF]
theorem sV(a):(fF a).length=a.length*6:=by
 induction a<;>grind[fF,yaq,Vl.cells]
theorem wH:∀(a:List Vl) (k j:Nat),k<a.length->j<6->(fF a)[k*6+j]? =(a.getD k hF).cells[j]?
 |[],k,j,O,_=>by simp at O
 |x::r,0,j,_,hj=>by
  grind[fF,Vl.cells]
 |x::r,k+1,j,O,hj=>by
  have:(x::r).getD (k+1) hF=r.getD k _:=rfl
  rw[this,fF,yas (by grind[Vl.cells,yaq])]
  have e:(k+1)*6+j-x.cells.length=k*6+j:=by grind[Vl.cells]
  rw[e]
  exact wH r k j (by grind) hj
theorem mX{W v}(h:W.ownsRow base 62 6 v n (fF vs))(ad:0<n)(af:vs.length=n):
  ∃g cap,v=hz g n cap/\base<=g/\g<W.heap.size/\n<=cap/\VA W g n vs:=by
 rcases h.2 with⟨_,c⟩|⟨g,cap,av,rfl,R,aS,aa,_,b7,ba⟩
 ·omega
 have aJ:g<W.heap.size:=by grind
 have aB:∀k j,k<n->j<6->W.cell? _=(vs.getD k _).cells[j]?:=λk j O hj=>by
  rw[cell_of_row W g _ _ _ _ aS,<-Array.getElem?_toList]
  have:(av.toList.take (n*6))[k*6+j]? =(fF vs)[k*6+j]?:=by rw[ba]
  rw[List.getElem?_take_of_lt xaa]at this
  rw[this]
  exact wH vs k j xaa hj
 refine⟨g,_,rfl,R,aJ,aa,af,aJ,λk O=>?_,λo=>frozen_of_row W g o _ _ aS⟩;exact⟨aB k 0 O xaa,aB k 1 O xaa,aB k 2 O xaa,aB k 3 O xaa,aB k 4 O xaa,aB k 5 O xaa⟩
structure StQ(Q:Nat->Prop)(R:Option Nat)(w:World)(R':Option Nat)(w':World):Prop where
 chg:Chg (λi=>Q i\/R=some i) w w'
 row:R'=R\/∃r,R'=some r/\w.heap.size<=r
theorem StQ.refl(Q H w):StQ Q H w H w:=⟨⟨rfl,rfl,rfl,yad,λ_ _ _=>rfl⟩,.inl rfl⟩
theorem eH{size v xs}{W:World}(h:W.ownsRow base e size v n xs)(O:v.ownBlock=some k):base<=k/\k<W.heap.size:=by
 rcases h.2 with⟨rfl,_⟩|⟨g,cap,av,rfl,R,aS,_⟩<;>grind[Value.ownBlock]
theorem i9(w:World)(v):At (w.alloc (fH v.op v.len v.a v.b v.c v.k)) w.heap.size 0 v:=by
 refine⟨?_,?_,?_,?_,?_,?_⟩;all_goals first|(go_simp;done)|(simp;done)
theorem kE{size v xs}{W:World}(h:W.ownsRow base e size v n xs)(m o):((W.alloc o).drewN m).ownsRow base e size v n xs:=h.alloc o
theorem qd(w:World)(o):(w.alloc o).heap[w.heap.size]? =some o:=by
 unfold World.alloc;simp
theorem B7(w:World)(v:Vl)(m):∀j u,v.cells[j]? =some u->((w.alloc (.cells #[hA v.op,hA v.len,hA v.a,hA v.b,hA v.c,.float .f64 v.k] 62)).drewN m).cell? ((⟨w.heap.size,0,none⟩:Addr).add j)=some u:=λj u aB=>
 World.news_of_block (w:=w.alloc (.cells #[hA v.op,hA v.len,hA v.a,hA v.b,hA v.c,.float .f64 v.k] 62)) (t:=62) (fr:=(0,0)) (cs:=#[hA v.op,hA v.len,hA v.a,hA v.b,hA v.c,.float .f64 v.k]) (qd _ _) j u aB
theorem kG{o z}(aJ:((aA.alloc o).drewN m).grownBy bj z)(hb:b<aA.heap.size)(aD:z≠some b)(ah:aA.cell? ⟨b,off,none⟩=some u):bj.cell? ⟨b,off,none⟩=some u:=by
 have Q:b<((aA.alloc o).drewN m).heap.size:=by show b<(aA.alloc o).heap.size;simp;omega
 rw[aJ.cell_far _ Q (λc=>aD c.symm)];exact iD (ez 0 0 _ o) hb ah
theorem far2{o z}(aJ:((aA.alloc o).drewN m).grownBy bj z)(hb:b<aA.heap.size)(aD:z≠some b)(ah:aA.frozen? ⟨b,off,none⟩=false):bj.frozen? ⟨b,off,none⟩=false:=by
 have Q:b<((aA.alloc o).drewN m).heap.size:=by show b<(aA.alloc o).heap.size;simp;omega
 rw[aJ.frozen_far _ Q (λc=>aD c.symm)];show(aA.alloc o).frozen? _=_;rw[(ez 0 0 _ o).frozen hb xaa];exact ah
theorem eI{size P o v xs}{W:World}(h:W.ownsRow base e size v n xs)(hP:v.ownBlock≠some P):(W.setCell ⟨P,o,none⟩ u).ownsRow base e size v n xs:=by
 refine⟨h.1,h.2.imp id ?_⟩;rintro⟨g,cap,av,ae,R,aS,aa⟩;refine⟨g,_,_,ae,R,?_,aa⟩;rw[Below.heap_setCell W _ u g (λc=>hP (by rw[ae,c];rfl))];exact aS
theorem FK(v:Vl):∀u∈v.cells,u.oneCell'=true:=λu aB=>by
 simp only[Vl.cells,List.mem_cons,List.not_mem_nil,or_false]at aB
 rcases aB with rfl|rfl|rfl|rfl|rfl|rfl<;>rfl
end
section
variable{ins outs:List Int}{v:Vl}{us vs:List Vl}{i:Nat}
theorem fb_zero:fb 0=0:=xab
def cv(v:Vl):Vl:=⟨v.op,v.len,v.a,v.b,v.c,fb v.k⟩
def Lk(us vs:List Vl):Prop:=us.map cv=vs.map cv
theorem cv_zero:cv hF=hF:=by simp[cv,hF,fb_zero]
theorem mg(vs:List Vl)(k):(vs.map cv).getD k hF=cv (vs.getD k hF):=by
 rw[yai,yai,List.getElem?_map];cases vs[k]? with
 |none=>exact cv_zero.symm
 |some x=>rfl
theorem Lk.len(h:Lk us vs):us.length=vs.length:=by
 have:=congrArg List.length h;simpa using this
theorem Lk.at_(h:Lk us vs)(k):cv (us.getD k hF)=cv (vs.getD k hF):=by
 rw[<-mg,<-mg,h]
theorem Nm(ins vs i):okV ins (vs.map cv) i=okV ins vs i:=by
 unfold okV;rw[mg];have e:∀o:Int,((vs.map cv).getD _ _).len=(vs.getD o.toNat _).len:=λo=>by rw[mg];rfl
 simp only[e];rfl
theorem Dk(vs):eU (vs.map cv)=eU vs:=by
 induction vs with
 |nil=>rfl
 |cons v r G=>simp[eU,G,cv]
theorem FM(ins vs outs):okG ins (vs.map cv) outs=okG ins vs outs:=by
 unfold okG;rw[Dk,List.length_map];have:=funext (Nm ins vs);rw[this]
theorem Lk.okG(h:Lk us vs):okG ins us outs=okG ins vs outs:=by
 rw[<-FM _ _,<-FM _ vs,h]
theorem Nn{j}(h:okV ins vs i=true)(r)(b9:(us.getD j hF).op=(vs.getD i hF).op)(ca:(us.getD j hF).len=(vs.getD i hF).len)
  (ar:cnt (vs.getD i hF).op<1->(us.getD j hF).a=(vs.getD i hF).a) (hb:cnt (vs.getD i hF).op<2->(us.getD j hF).b=(vs.getD i hF).b) (ah:cnt (vs.getD i hF).op<3->(us.getD j hF).c=(vs.getD i hF).c)
  (hops:fe (us.getD j hF)=(fe (vs.getD i hF)).map r) (aD:∀o∈fe (vs.getD i hF),0<=o->o<i->(0<=r o/\r o<j)/\(us.getD (r o).toNat hF).len=(vs.getD o.toNat hF).len):okV ins us j=true:=by
 unfold okV at h⊢;generalize us.getD j _=u at*;generalize vs.getD i _=v at*;rw[Bool.and_eq_true,Bool.and_eq_true]at h;obtain⟨⟨F,N⟩,h3⟩:=h;have aU:fW u=true:=by grind[fW]
 rw[ca,F,aU,b9];simp only[Bool.true_and];by_cases al:v.op=0
 ·grind[cnt]
 rw[hC al]at h3⊢;rw[Bool.and_eq_true]at h3⊢
 have aB:∀o∈fe v,(0<=r o/\r o<j)/\(us.getD _ _).len=(vs.getD o.toNat _).len:=λo ho=>by
  have:=of_decide_eq_true (List.all_eq_true.1 h3.1 o ho)
  exact aD o ho this.1 this.2
 rw[hops];refine⟨?_,?_⟩
 ·rw[List.all_map,List.all_eq_true];intro o ho;exact decide_eq_true (aB o ho).1
 have e:((fe v).map r).map (λo=>(us.getD o.toNat hF).len)=(fe v).map λo=>(vs.getD o.toNat hF).len:=by
  rw[List.map_map];apply List.map_congr_left;intro o ho;exact(aB o ho).2
 grind[cnt,eV]
theorem wI(hi:i<vs.length)(h:okV ins vs i=true):okV ins (vs++[v]) i=true:=by
 have e:∀k,k<vs.length->(vs++[v]).getD k hF=vs.getD k hF:=λk O=>by
  rw[yai,yat O,<-yai]
 refine Nn h id ?_ ?_ ?_ ?_ ?_ ?_ ?_
 ·rw[e i hi]
 ·rw[e i hi]
 ·intro _;rw[e i hi]
 ·intro _;rw[e i hi]
 ·intro _;rw[e i hi]
 ·rw[e i hi];simp
 intro o _ al F;refine⟨⟨al,F⟩,?_⟩;rw[e _ (by simp only[id];omega)];rfl
def FN(u v:Vl):Bool:=(u.op==v.op&&(u.len==v.len&&(u.a==v.a&&(u.b==v.b&&u.c==v.c))))&&(u.op !=1||fb u.k==fb v.k)
theorem qe(h:okV ins vs i=true):∀o∈fe (vs.getD i hF),0<=o/\o<i:=by
 intro o ho;unfold okV at h;generalize vs.getD i _=v at*;rw[Bool.and_eq_true]at h;have h3:=h.2;by_cases al:v.op=0
 ·have c0:cnt v.op=0:=by rw[al];rfl
  unfold fe at ho;rw[c0]at ho;simp at ho
 rw[hC al,Bool.and_eq_true]at h3;exact of_decide_eq_true (List.all_eq_true.1 h3.1 o ho)
theorem wJ(h:1<=cnt v.op):v.a∈fe v:=by
 have:=fI v.op;unfold fe;rcases (by omega:cnt v.op=1\/cnt v.op=2\/cnt v.op=3) with e|e|e<;>simp[e]
theorem wK(h:2<=cnt v.op):v.b∈fe v:=by
 have:=fI v.op;unfold fe;rcases (by omega:cnt v.op=2\/cnt v.op=3) with e|e<;>simp[e]
theorem wL(h:3<=cnt v.op):v.c∈fe v:=by
 have:=fI v.op;unfold fe;simp[(by omega:cnt v.op=3)]
theorem gU(h:okG ins vs outs=true):(ins.length<=20/\vs.length<=2000/\outs.length<=50)/\ins.all lenB=true/\(∀j,j<vs.length->okV ins vs j=true)/\(∀o∈outs,0<=o/\o<vs.length)/\eU vs<=50000:=by
 unfold okG at h;simp only[Bool.and_eq_true]at h;obtain⟨F,N,h3,a6,bF⟩:=h;exact⟨of_decide_eq_true F,N,λj hj=>List.all_eq_true.1 h3 j (List.mem_range.2 hj),λo ho=>of_decide_eq_true (List.all_eq_true.1 a6 o ho),of_decide_eq_true bF⟩
def Kb(vs:List Vl):Prop:=∀v∈vs,v.k<18446744073709551616
theorem Kb.at_(h:Kb vs)(k):(vs.getD k hF).k<18446744073709551616:=by
 rw[yai];by_cases O:k<vs.length
 ·exact xiz
 exact xhm
theorem yI(h:okV ins vs i=true):lenB (vs.getD i hF).len=true:=by
 grind[okV]
def isO(outs:List Int)(i:Nat):Bool:=outs.any λo=>o==(i:Int)
end
section
attribute[local go_sem] eF eE eD
variable{w a B b c I:World}{lo base e hi g size p n d l h:Nat}{S T:Nat->Prop}{bE R v aS:Value}{xs:List Int}
structure IBk(w:World)(g n:Nat)(xs:List Int):Prop where
 len:xs.length=n
 lt:g<w.heap.size
 at_:∀k,k<n->w.cell? ⟨g,k,none⟩=some (.int .i64 (xs.getD k 0))
 free:∀o,w.frozen? ⟨g,o,none⟩=false
def IZ(w:World)(g:Nat)(a:Option Addr)(n:Nat)(xs:List Int):Prop:=n=0\/(a=some ⟨g,0,none⟩/\IBk w g n xs)
def VZ(w:World)(g:Nat)(a:Option Addr)(n:Nat)(vs:List Vl):Prop:=n=0\/(a=some ⟨g,0,none⟩/\VA w g n vs)
theorem Kept.chg1(k:Kept g (g+1) w B)(h:S g):Chg S w B:=
 ⟨k.os,k.tape,k.output,k.size,λi hi ad=>k.block i hi λc=>ad ((show g=i by omega) ▸ h)⟩
theorem Chg.andThen(h:Chg S a b)(k:Chg S b c):Chg S a c:=
 ⟨k.os.trans h.os,k.tape.trans h.tape,k.output.trans h.output,yao h.size k.size,λi hi ad=>(k.block i (yak hi h.size) ad).trans (h.block i hi ad)⟩
theorem eO{xs W}(h:W.ownsRow base e size v n xs)(k:Kept 0 0 W I):I.ownsRow base e size v n xs:=by
 refine⟨h.1,h.2.imp id ?_⟩;rintro⟨g,cap,av,ae,R,aS,aa⟩;refine⟨g,_,_,ae,R,?_,aa⟩;have aJ:g<W.heap.size:=by grind
 rw[k.block g aJ xaa];exact aS
theorem Pn(an:xs.length=n)(ah:∀k,k<n->w.cell? ⟨g,k,none⟩=some (hA (xs.getD k 0))):
  ∀j u,(xs.map (Value.int .i64))[j]? =some u->w.cell? ((⟨g,0,none⟩:Addr).add j)=some u:=λj u aB=>by
 have hj:j<n:=by
  rcases Nat.lt_or_ge j n with c|c
  ·exact c
  ·rw[List.getElem?_eq_none yag]at aB;cases aB
 have F:=ah j hj
 have e:(⟨g,0,none⟩:Addr).add j=⟨g,j,none⟩:=by
  unfold Addr.add;split
  ·rename_i al;rw[al]
  ·simp
 rw[e,F]
 rw[List.getElem?_map,yam (by omega:j<xs.length)]at aB
 simp only[Option.map_some]at aB
 rw[<-aB,yai,yam (by omega:j<xs.length)];rfl
theorem gm{z}(h:w.grownBy B z)(aD:∀k,z=some k->base<=k){C}(k:Kept 0 0 C w)(hb:C.heap.size<=base):Kept 0 0 C B:=
 ⟨h.os.trans k.os,h.tape.trans k.tape,h.output.trans k.output,yao k.size h.size,λi hi _=>by
  rw[h.block i (yak hi k.size) (λc=>by grind)]
  exact k.block i hi xaa⟩
theorem Po:∀(vs:List Vl),∀u∈fF vs,u.oneCell'=true
 |[],_,h=>by cases h
 |v::r,u,h=>by
  rcases List.mem_append.1 h with c|c
  ·exact FK v u c
  ·exact Po r u c
theorem FP{xs}{W:World}(h:W.ownsRow base e size v n xs)(aO:v≠.slice none 0 0):∃g cap,v=hz g n cap/\base<=g/\g<W.heap.size:=by
 rcases h.2 with⟨e,_⟩|⟨g,cap,av,e,R,aS,_⟩<;>grind
theorem No(w g n c xs)(be:n<=1000000)(h:IE w g xs)(an:xs.length=n):
  Calls prog 27 #[hz g n c] w λe B=>∃G cap,e=.returned (hz G n cap)/\w.heap.size<=G/\G<B.heap.size/\B.ownsRow w.heap.size 3 1 (hz G n cap) n (xs.map (Value.int .i64))/\Kept 0 0 w B:=by
 obtain⟨bW,hi,b4,b3,b0⟩:=info_parts pX
 have z:(binOp .eql 23 (hz g n c) (.slice none 0 0)).run prog w=.ok (.bool false) w:=by
  simp only[binOp];simp[run_equal_slice_nil w 23 3 (some ⟨g,0,none⟩) n c underlying23]
 have bh:=ez 0 0 w (.cells #[] 3);have ah:∀k,k<n->_:=λk O=>h.cell k xaa;have bm:E _:=Pn an (λk O=>iD bh h.lt (ah k O));have HO:E _:=World.ownsRow_made (e:=3) (size:=1) w #[] 0 yad (by unfold maxLen;omega) rfl;have ae:E _:=bh;have ar:E _:=an;clear ah an bh h;go_enter func27,ntmps27;go_wp2_with (first|(at_builtin;refine wpList_append_own _ rfl _ _ _ rfl _ 3 _ _ 1 8 underlying23 hi b4 b3 b0 rfl xab _ _ _ rfl HO.o _ n c _ rfl ?c0 bm.o ?c2 ?c3 ?c4 ?c5 ?_))
 case c0=>exact ar.o
 case c2=>intro u aB;rfl
 case c3=>unfold maxLen;omega
 case c4=>omega
 intro v' bj bF aW r;obtain⟨G,cap,rfl,R,aS⟩:=FP bF r;have H:E _:=gm aW (λk O=>hJ ((by simpa[Value.ownBlock] using O))) ae.o yad;have R2:E _:=bF;clear bF aW r;go_wp2;go_ret;exact⟨G,_,rfl,R,aS,R2.o,H.o⟩
theorem oP{q}(h:q<xs.length):xs.getD q 0∈xs:=by
 simp_all
theorem iE{f xs}{W:World}(h:W.ownsRow base e size v n xs)(hb:f<=base):W.ownsRow f e size v n xs:=
 ⟨h.1,h.2.imp id λ⟨g,cap,av,ae,R,aS⟩=>⟨g,cap,av,ae,yao hb R,aS⟩⟩
theorem Kept.drew(h:Kept lo hi w B):Kept lo hi w B.drew:=⟨h.os,h.tape,h.output,h.size,h.block⟩
theorem bK.qcj(h:Zp:=by
 have:=aK g (hO ae);rw[k.block g aJ xaa];exact aS):Zp:=h
open bK in
theorem f9{xs W}(o:W.ownsRow base e size v n xs)(k:Kept l h W I)(aK:∀g,v.ownBlock=some g->g<l\/h<=g):I.ownsRow base e size v n xs:=by
 exact qci
abbrev OI(w:World)(base G n cap:Nat)(xs:List Int):Prop:=w.ownsRow base 3 1 (.slice (some ⟨G,0,none⟩) n cap) n (xs.map (Value.int .i64))
abbrev fJ:Obj:=.cells #[.slice none 0 0,.slice none 0 0,.slice none 0 0] 26
structure RB(W:World)(p:Nat)(b0 b1 b2:Value):Prop where
 sz:p<W.heap.size
 q0:W.cell? ⟨p,0,none⟩=some b0
 q1:W.cell? ⟨p,1,none⟩=some b1
 q2:W.cell? ⟨p,2,none⟩=some b2
 f0:W.frozen? ⟨p,0,none⟩=false
 f1:W.frozen? ⟨p,1,none⟩=false
 f2:W.frozen? ⟨p,2,none⟩=false
theorem RB.keep{W}(t:RB W p bE R aS)(k:Kept 0 0 W I):RB I p bE R aS:=
 ⟨yak t.sz k.size,iD k t.sz t.q0,iD k t.sz t.q1,iD k t.sz t.q2,by rw[k.frozen t.sz xaa];exact t.f0,by rw[k.frozen t.sz xaa];exact t.f1,by rw[k.frozen t.sz xaa];exact t.f2⟩
theorem iN(w:World):RB (w.alloc fJ) w.heap.size (.slice none 0 0) (.slice none 0 0) (.slice none 0 0):=by
 exact xib
theorem fp(w:World)(g a b c)(al:w.cell? ⟨g,0,none⟩=some a)(F:w.cell? ⟨g,1,none⟩=some b)(N:w.cell? ⟨g,2,none⟩=some c)(x y z):
  (((w.setCell ⟨g,0,none⟩ x).setCell ⟨g,1,none⟩ y).setCell ⟨g,2,none⟩ z).cell? ⟨g,0,none⟩=some x/\(((w.setCell ⟨g,0,none⟩ x).setCell ⟨g,1,none⟩ y).setCell ⟨g,2,none⟩ z).cell? ⟨g,1,none⟩=some y/\(((w.setCell ⟨g,0,none⟩ x).setCell ⟨g,1,none⟩ y).setCell ⟨g,2,none⟩ z).cell? ⟨g,2,none⟩=some z:=by
 refine⟨?_,?_,?_⟩
 ·rw[eQ _ _ _ _ _ _ (.inr xaa),eQ _ _ _ _ _ _ (.inr xaa)];exact fy _ _ _ _ _ al
 ·rw[eQ _ _ _ _ _ _ (.inr xaa)];exact fy _ _ _ _ _ (by rw[eQ _ _ _ _ _ _ (.inr xaa)];exact F)
 exact fy _ _ _ _ _ (by rw[eQ _ _ _ _ _ _ (.inr xaa),eQ _ _ _ _ _ _ (.inr xaa)];exact N)
theorem eG(w):Kept 0 0 w w.drew:=⟨rfl,rfl,rfl,yad,λ_ _ _=>rfl⟩
theorem im{xs}{W:World}(h:W.ownsRow base e size v n xs):∃a cap,v=.slice a n cap:=by
 rcases h.2 with⟨e,rfl⟩|⟨g,cap,av,e,_⟩<;>grind
def Apart(u v:Value):Prop:=∀k,u.ownBlock=some k->v.ownBlock≠some k
theorem sW{R aS ae a9 ax aU Z n2:Nat}{u xs bJ}{W:World}(F:W.ownsRow R ae ax u Z xs)(N:I.ownsRow aS a9 aU v n2 bJ)(hb:W.heap.size<=aS):Apart u v:=λk O aO=>by
 have:=(eH F O).2
 have:=(eH N aO).1
 omega
theorem jD(w:World)(P J o x y z)(h:J≠P):(((w.setCell ⟨P,0,none⟩ x).setCell ⟨P,1,none⟩ y).setCell ⟨P,2,none⟩ z).cell? ⟨J,o,none⟩=w.cell? ⟨J,o,none⟩:=by
 rw[eQ _ _ _ _ _ _ (.inl (Ne.symm h)),eQ _ _ _ _ _ _ (.inl (Ne.symm h)),eQ _ _ _ _ _ _ (.inl (Ne.symm h))]
theorem wM{W b}(h:W.ownsRow base 3 1 (.slice b n d) n (xs.map (Value.int .i64)))(af:xs.length=n):n=0\/∃g,b=some ⟨g,0,none⟩/\base<=g/\IBk W g n xs:=by
 rcases h.2 with⟨_,c⟩|⟨g,cap,av,e,R,aS,aa,_,b7,ba⟩
 ·exact .inl c
 injection e with aC aL b1;subst aC;have aJ:g<W.heap.size:=by grind
 refine .inr ⟨g,rfl,R,af,aJ,λk O=>?_,λo=>frozen_of_row W g o _ _ aS⟩;rw[cell_of_row W g _ _ _ _ aS,<-Array.getElem?_toList];exact xhu
theorem IZ.is{W a}(h:IZ W g a n xs)(af:xs.length=n):IS W 0 W.heap.size a n xs:=
 ⟨af,by
  rcases h with al|⟨rfl,q⟩
  ·exact .inl al
  ·exact .inr ⟨g,0,rfl,yae,q.lt,q.lt,λk O=>by rw[Nat.zero_add];exact q.at_ k O⟩⟩
theorem VZ.vs{W a vs}(h:VZ W g a n vs)(af:vs.length=n)(O:∀v∈vs,v.k<18446744073709551616):VS W 0 W.heap.size a n vs:=
 ⟨af,O,by
  rcases h with al|⟨rfl,q⟩
  ·exact .inl al
  ·exact .inr ⟨g,0,rfl,yae,q.lt,q.lt,λk O=>by rw[Nat.zero_add];exact q.at_ k O⟩⟩
theorem wN{W b}(h:W.ownsRow base 3 1 (.slice b n d) n (xs.map (Value.int .i64)))(af:xs.length=n):IS W 0 W.heap.size b n xs:=by
 rcases wM h af with al|⟨g,e,_,q⟩
 ·exact IZ.is (g:=0) (.inl al) af
 exact IZ.is (.inr ⟨e,q⟩) af
theorem Np{W b vs}(h:W.ownsRow base 62 6 (.slice b n d) n (fF vs))(af:vs.length=n)(O:∀v∈vs,v.k<18446744073709551616):VS W 0 W.heap.size b n vs:=by
 rcases Nat.eq_zero_or_pos n with al|al
 ·exact VZ.vs (g:=0) (.inl al) af O
 obtain⟨g,cap,e,_,_,_,a2⟩:=mX h al af;injection e with aC;exact VZ.vs (.inr ⟨aC,a2⟩) af O
theorem G0.keepC{W}(t:G0 W p bE R aS)(k:Chg S W I)(aK:¬S p):G0 I p bE R aS:=by
 have e:∀o,_:=λo=>k.cell (p:=⟨p,o,none⟩) t.sz aK;exact⟨yak t.sz k.size,hL e t.q0,hL e t.q1,hL e t.q2⟩
theorem Pp{op}(al:0<=op)(F:op<=13):sQ op=cnt op:=by
 rcases (by omega:op=0\/op=1\/op=2\/op=3\/op=4\/op=5\/op=6\/op=7\/op=8\/op=9\/op=10\/op=11\/op=12\/op=13) with rfl|rfl|rfl|rfl|rfl|rfl|rfl|rfl|rfl|rfl|rfl|rfl|rfl|rfl<;>decide
theorem mY{ins vs i}(h:okV ins vs i=true):0<=(vs.getD i hF).op/\(vs.getD i hF).op<=13:=by
 grind[okV,eV]
theorem IS.at_idx{a}(f:IS w lo hi a n xs){o:Int}(al:0<=o)(F:o<n):∃g off k,a=some ⟨g,off,none⟩/\o=(k:Nat)/\k<n/\g<w.heap.size/\w.cell? ⟨g,off+k,none⟩=some (hA (xs.getD o.toNat 0)):=by
 rcases f.at_ with z|⟨g,off,e,_,_,bi,bk⟩
 ·omega
 exact⟨g,_,_,e,by omega,by omega,bi,bk _ xaa⟩
theorem sX(a b):eU (a++b)=eU a+eU b:=by
 induction a with
 |nil=>simp[eU]
 |cons y bJ G=>simp[eU,G];omega
abbrev eK(op n p q r:Int):Vl:=⟨op,n,p,q,r,0⟩
def yJ(n p q:Int)(N:Nat):List Vl×Int:=if p=-1 then ([],q)else if q=-1 then ([],p)else ([eK 2 n p q 0],N)
def yK(n p q:Int)(N:Nat):List Vl×Int:=if q=-1 then ([],p)else if p=-1 then ([eK 6 n q 0 0],N)else ([eK 3 n p q 0],N)
def chM(n d p q:Int)(N:Nat):List Vl×Int:=
 if p=-1 then (if q=-1 then ([eK 1 n 0 0 0,eK 1 n 0 0 0,eK 8 n d N ((N+1:Nat):Int)],((N+2:Nat):Int))else ([eK 1 n 0 0 0,eK 8 n d N q],((N+1:Nat):Int)))
 else (if q=-1 then ([eK 1 n 0 0 0,eK 8 n d p N],((N+1:Nat):Int))else ([eK 8 n d p q],(N:Int)))
def yL(v:Vl)(ta tb:Int)(N:Nat):List Vl×Int:=
 if ta=-1 then (if tb=-1 then ([],-1)else ([eK 4 v.len v.a tb 0],(N:Int)))
 else (if tb=-1 then ([eK 4 v.len ta v.b 0],(N:Int))else ([eK 4 v.len ta v.b 0,eK 4 v.len v.a tb 0,eK 2 v.len N ((N+1:Nat):Int) 0],((N+2:Nat):Int)))
def yM(i:Int)(v:Vl)(ta tb:Int)(N:Nat):List Vl×Int:=
 if ta=-1 then (if tb=-1 then ([],-1)else ([eK 4 v.len i tb 0,eK 5 v.len N v.b 0,eK 6 v.len ((N+1:Nat):Int) 0 0],((N+2:Nat):Int)))
 else (if tb=-1 then ([eK 5 v.len ta v.b 0],(N:Int))else ([eK 5 v.len ta v.b 0,eK 4 v.len i tb 0,eK 5 v.len ((N+1:Nat):Int) v.b 0,eK 3 v.len N ((N+2:Nat):Int) 0],((N+3:Nat):Int)))
def BR(w:World)(g:Nat)(xs:List Bool):Prop:=w.heap[g]? =some (.cells (xs.map Value.bool).toArray 4 (0,0))
theorem BR.lt{xs}(h:BR w g xs):g<w.heap.size:=by
 grind[BR]
theorem BR.cell{xs}(h:BR w g xs)(k)(O:k<xs.length):w.cell? ⟨g,k,none⟩=some (.bool (xs.getD k false)):=by
 rw[cell_of_row w g k _ _ _ h];grind
theorem BR.free{xs}(h:BR w g xs)(k):w.frozen? ⟨g,k,none⟩=false:=frozen_of_row w g k _ _ h
theorem BR.keep{xs}(f:BR w g xs)(k:Kept l h w B)(aK:g<l\/h<=g\/h<=l):BR B g xs:=by
 unfold BR;rw[k.block g f.lt xaa];exact f
theorem BR.keepC{xs}(f:BR w g xs)(k:Chg S w B)(aK:¬S g):BR B g xs:=by
 unfold BR;rw[k.block g f.lt aK];exact f
theorem BR.set{xs}(h:BR w g xs)(k x):BR (w.setCell ⟨g,k,none⟩ (.bool x)) g (xs.set k x):=by
 unfold BR at h⊢;exact qcw
theorem BR.made(w:World)(n):BR (w.alloc (.cells (madeCells #[.bool false] n) 4)) w.heap.size (List.replicate n false):=by
 unfold BR;rw[heap_alloc_new]
 have:(madeCells #[.bool false] n)=(List.map Value.bool (List.replicate n false)).toArray:=by
  apply Array.toList_inj.1;rw[toList_madeCells_one];simp
 rw[this]
theorem MN:(prog.info? 4).map (λi=>(i.zero,i.size,i.bytes))=some (some (.bool false),1,1):=by kernel_rfl
theorem Nq(n:Nat)(w)(ad:n<=1099511627776):
  (Instr.makeSlice 68 (hA n) (hA n)).run prog w=.ok (hz w.heap.size n n) (w.alloc (.cells (madeCells #[.bool false] n) 4)):=by
 obtain⟨i,hi,b4,b3,b0⟩:=info_parts MN;have:=run_make w 68 4 i _ underlying68 hi b4 .i64 .i64 n n xaa xaa (by grind) xaa;exact qbr
theorem IR.keepC(f:IR w g xs)(k:Chg S w B)(aK:¬S g):IR B g xs:=by
 unfold IR;rw[k.block g f.lt aK];exact f
theorem VA.keepC{vs}(q:VA w g n vs)(k:Chg S w B)(aK:¬S g):VA B g n vs:=
 ⟨q.len,yak q.lt k.size,λj hj=>by
  have e:∀o,_:=λo=>k.cell (p:=⟨g,o,none⟩) q.lt aK
  obtain⟨c0,c1,c2,c3,c4,c5⟩:=q.at_ j hj
  exact⟨by grind,by grind,by grind,by grind,by grind,by grind⟩,λo=>by rw[k.frozen q.lt aK];exact q.free o⟩
theorem Chg.mono(h:Chg S w B)(au:∀b,b<w.heap.size->S b->T b):Chg T w B:=
 ⟨h.os,h.tape,h.output,h.size,λk O ad=>h.block k O λc=>ad (au k O c)⟩
theorem Chg.trans(h:Chg S a b)(k:Chg S b c):Chg S a c:=Chg.andThen h k
theorem Chg.new(h:Chg S a b)(k:Chg T b c)(bd:∀i,i<a.heap.size->T i->S i):Chg S a c:=
 ⟨k.os.trans h.os,k.tape.trans h.tape,k.output.trans h.output,yao h.size k.size,λi hi ad=>(k.block i (yak hi h.size) (λc=>ad (bd i hi c))).trans (h.block i hi ad)⟩
theorem fC(w g o v)(h:S g):Chg S w (w.setCell ⟨g,o,none⟩ v):=
 (eR (lo:=g) (hi:=g+1) w ⟨g,o,none⟩ v yac).chg1 h
theorem JS{W G cap}(h:OI W base G n cap xs)(af:xs.length=n):IBk W G n xs:=by
 rcases Nat.eq_zero_or_pos n with al|al
 ·subst al;rcases h.2 with⟨e,_⟩|⟨g,c,av,e,R,aS,aa⟩
  ·cases e
  cases e
  have aG:G<W.heap.size:=by
   rcases Nat.lt_or_ge G W.heap.size with c|c
   ·exact c
   rw[Array.getElem?_eq_none c]at aS;cases aS
  exact⟨af,aG,λk O=>by omega,λo=>frozen_of_row W G o _ _ aS⟩
 rcases wM h af with F|⟨g,e,_,F⟩
 ·omega
 cases e;exact F
