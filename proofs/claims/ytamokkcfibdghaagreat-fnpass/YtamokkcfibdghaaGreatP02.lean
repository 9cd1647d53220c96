import Derived.Test.YtamokkcfibdghaaGreatP01
namespace Go.Proofs.Z
open Tryz Go.RowKit Flt
set_option maxRecDepth 1000000
set_option maxHeartbeats 0
section
variable {s:Bool}{x lo y r g hi u lo' N l hi' h n:Nat}{w J a b c:World}{xs:List Nat}
theorem Me(b w):(callFunc 142 #[.float .f64 b]).run prog w=.ok (.value (.int .u64 b)) w:=by
 rw[run_callFunc_extern (e:=Extern.MathFloatBits.float64bits) func142 (by kernel_rfl) (by kernel_rfl) (by kernel_rfl) (by kernel_rfl)];rfl
theorem ER(b w):(callFunc 136 #[.int .u64 b]).run prog w=.ok (.value (.float .f64 b.toNat)) w:=by
 rw[run_callFunc_extern (e:=Extern.MathFloatBits.float64frombits) func136 (by kernel_rfl) (by kernel_rfl) (by kernel_rfl) (by kernel_rfl)];rfl
theorem oN(x w):
  Calls prog 131 #[.float .f64 x] w λe J=>e=.returned (.bool (FloatKind.f64.format.order x x !=some .eq))/\J=w:=by
 go_enter func131,ntmps131;go_wp2;go_ret;exact⟨rfl,rfl⟩
theorem oO(x w):
  Calls prog 116 #[.float .f64 x] w λe J=>e=.returned (.bool (FloatKind.f64.format.order x x !=some .eq))/\J=w:=by
 go_enter func116,ntmps116;go_wp2;go_ret;exact⟨rfl,rfl⟩
theorem we(x w)(h:(FloatKind.f64.format.order x x !=some .eq)=false):
  Calls prog 133 #[.float .f64 x] w λe J=>e=.returned (.int .u64 x)/\J=w:=by
 have ai:=Me;exact xkm
theorem wg(x w)(h:(FloatKind.f64.format.order x x !=some .eq)=true):
  Calls prog 133 #[.float .f64 x] w λe J=>e=.returned (.int .u64 9221120237041090560)/\J=w:=by
 exact xkm
theorem qe(h:r<=9218868437227405312):(FloatKind.f64.format.order (W s r) (W s r) !=some .eq)=false:=by
 rw[show FloatKind.f64.format.order (W s r) _=some _ from v9 h];rfl
theorem su(h:9218868437227405312<r)(ay:r<9223372036854775808):(FloatKind.f64.format.order (W s r) (W s r) !=some .eq)=true:=by
 rw[show FloatKind.f64.format.order (W s r) _=none from wb h ay];rfl
def fb (x:Nat):Nat:=if FloatKind.f64.format.order x x !=some .eq then 9221120237041090560 else x
theorem sR(x w):
  Calls prog 133 #[.float .f64 x] w λe J=>e=.returned (.int .u64 (fb x:Nat))/\J=w:=by
 unfold fb;cases h:(FloatKind.f64.format.order x x !=some .eq)
 ·exact we x w h
 exact wg x w h
theorem yq(x y w):
  Calls prog 134 #[.float .f64 x,.float .f64 y] w λe J=>e=.returned (.bool ((fb x:Int)==(fb y:Int)))/\J=w:=by
 go_enter func134,ntmps134;go_wp2_with fail;refine(sR _ _).mono ?_;rintro e J ⟨rfl,rfl⟩;go_wp2_with fail;refine(sR _ _).mono ?_;rintro e J ⟨rfl,rfl⟩;go_wp2;go_ret;exact⟨rfl,rfl⟩
theorem wi(h:r<=9218868437227405312):fb (W s r)=W s r:=by unfold fb;rw[qe h];rfl
theorem qX(h:9218868437227405312<r)(ay:r<9223372036854775808):fb (W s r)=9221120237041090560:=by unfold fb;rw[su h ay];rfl
theorem ON{t q}(ay:r<9223372036854775808)(aq:q<9223372036854775808):(((W s r:Nat):Int)==((W t q:Nat):Int))=decide (r=q/\s=t):=by
 grind [OE]
theorem yr(ay:r<=9218868437227405312):(((W s r:Nat):Int)==9221120237041090560)=false/\((9221120237041090560:Int)==((W s r:Nat):Int))=false:=by
 grind [W]
abbrev f64:Ieee.Format:=FloatKind.f64.format
theorem Ax(d:Ieee.Datum):(d.order d !=some .eq)=d.isNaN:=by
 cases d with
 |number s m i=>simp[Ieee.Datum.order,Ieee.Datum.isNaN]
 |infinity s=>cases s<;>rfl
 |nan s t=>rfl
theorem wj(x):(FloatKind.f64.format.order x x !=some .eq)=(FloatKind.f64.format.read x).isNaN:=Ax _
theorem oP(h:(f64.read x).isNaN=true):fb x=9221120237041090560:=by
 unfold fb;rw[wj,h];rfl
theorem CF(h:(f64.read x).isNaN=false):fb x=x:=by
 unfold fb;rw[wj,h];rfl
theorem OO:(f64.read 9221120237041090560).isNaN=true:=xab
theorem mK(h:fb x=fb y):x=y\/((f64.read x).isNaN=true/\(f64.read y).isNaN=true):=by
 grind [CF,oP,OO]
theorem uP(au:(f64.read x).isNaN=true)(bV:(f64.read y).isNaN=true):fb x=fb y:=by
 rw[oP au,oP bV]
theorem lW{d:Ieee.Datum}(h:d.isNaN=true):∃s t,d=.nan s t:=by
 cases d with
 |number s m i=>cases h
 |infinity s=>cases h
 |nan s t=>exact⟨s,t,rfl⟩
theorem lF(h:fb x=fb u)(h':fb y=fb N):f64.order x y=f64.order u N:=by
 rcases mK h with rfl|⟨a,b⟩
 ·rcases mK h' with rfl|⟨c,d⟩
  ·rfl
  exact(nH (lW c)).trans (nH (lW d)).symm
 exact(lZ (lW a)).trans (lZ (lW b)).symm
theorem kB(op)(h:(f64.read x).isNaN=true):floatBits op .f64 x y=none:=by
 obtain⟨s,t,h⟩:=lW h;cases op<;>first|rfl|skip
 all_goals
  simp only[floatBits,Ieee.Format.add,Ieee.Format.sub,Ieee.Format.mul,Ieee.Format.div]
  rw[h]
  rfl
theorem lQ(op)(h:(f64.read y).isNaN=true):floatBits op .f64 x y=none:=by
 obtain⟨s,t,h⟩:=lW h;cases op<;>first|rfl|skip
 all_goals
  simp only[floatBits,Ieee.Format.add,Ieee.Format.sub,Ieee.Format.mul,Ieee.Format.div]
  rw[h]
  cases f64.read x<;>rfl
def cop (op:BinOp)(x y:Nat):Nat:=(floatBits op .f64 x y).getD 9221120237041090560
theorem gL(op)(h:fb x=fb u)(h':fb y=fb N):cop op x y=cop op u N:=by
 unfold cop;rcases mK h with rfl|⟨a,b⟩
 ·rcases mK h' with rfl|⟨c,d⟩
  ·rfl
  rw[lQ _ c,lQ _ d]
 rw[kB _ a,kB _ b]
def fop (op:BinOp)(x y:Nat)(w:World):Nat:=
 (floatBits op .f64 x y).getD (Question.cut (.nanBits .f64 x y) (w.tape w.drawn (.nanBits .f64 x y)))
def fnd (op:BinOp)(x y:Nat):Nat:=if (floatBits op .f64 x y).isSome then 0 else 1
theorem BG(x y t):(f64.read (Question.cut (.nanBits .f64 x y) t)).isNaN=true/\Question.cut (.nanBits .f64 x y) t<18446744073709551616:=by
 simp only[Question.cut];obtain⟨k,O,aF⟩:∃k,(t/2)%(2 ^ 52-1)=k/\k<4503599627370495:=⟨_,rfl,Nat.mod_lt _ xab⟩
 rw[O];rcases Nat.mod_two_eq_zero_or_one t with h|h
 ·rw[h];have e:0*2 ^ 63+9218868437227405312+1+k=W false (9218868437227405312+1+k):=by unfold W;simp
  exact xhg
 rw[h];have e:1*2 ^ 63+9218868437227405312+1+k=W true (9218868437227405312+1+k):=by unfold W;simp;omega
 exact xhg
theorem ik(op x y w):fb (fop op x y w)=fb (cop op x y):=by
 unfold fop cop;cases floatBits op .f64 x y with
 |none=>grind [uP,BG,OO]
 |some r=>rfl
theorem iE(op x y w):fop op x y w<18446744073709551616:=by
 unfold fop;cases h:floatBits op .f64 x y with
 |none=>grind [BG]
 |some r=>
  have:=floatBits_wf h;simpa[Lit.wf] using this
section
variable {P:Program} (w:World)
theorem sw(op)(av:op=.add\/op=.sub\/op=.mul\/op=.quo)(t x y):
  (binOp op t (.float .f64 x) (.float .f64 y)).run P w=.ok (.float .f64 (fop op x y w)) (w.drewN (fnd op x y)):=by
 cases h:floatBits op .f64 x y with
 |some r=>
  have ae:fop op x y w=r:=by unfold fop;rw[h];rfl
  have a9:fnd op x y=0:=by unfold fnd;rw[h];rfl
  rw[ae,a9,World.drewN_zero];exact run_float_arith w _ t _ x y r h
 |none=>
  have ae:fop op x y w=Question.cut (.nanBits .f64 x y) (w.tape w.drawn (.nanBits .f64 x y)):=by unfold fop;rw[h];rfl
  have a9:fnd op x y=1:=by unfold fnd;rw[h];rfl
  rw[ae,a9];unfold floatBits at h;rcases av with rfl|rfl|rfl|rfl
  all_goals
   simp only at h
   simp[binOp,Op.floatArith,h,choose,Sem.run,Question.forced]
   rfl
theorem qf(t x y):(binOp .add t (.float .f64 x) (.float .f64 y)).run P w=.ok (.float .f64 (fop .add x y w)) (w.drewN (fnd .add x y)):=sw w .add xac t x y
theorem yt(t x y):(binOp .sub t (.float .f64 x) (.float .f64 y)).run P w=.ok (.float .f64 (fop .sub x y w)) (w.drewN (fnd .sub x y)):=sw w .sub xac t x y
theorem mL(t x y):(binOp .mul t (.float .f64 x) (.float .f64 y)).run P w=.ok (.float .f64 (fop .mul x y w)) (w.drewN (fnd .mul x y)):=sw w .mul xac t x y
theorem kK(t x y):(binOp .quo t (.float .f64 x) (.float .f64 y)).run P w=.ok (.float .f64 (fop .quo x y w)) (w.drewN (fnd .quo x y)):=sw w .quo xac t x y
end
theorem wk(b w):(convert 49 49 (.float .f64 b)).run prog w=.ok (.float .f64 b) w:=
 run_convert_float_float w 49 49 .f64 .f64 b b (by kernel_rfl) underlying49 (by simp[floatToFloatBits])
theorem qg(w):(binOp .quo 49 (.float .f64 4607182418800017408) (.float .f64 0)).run prog w=.ok (.float .f64 9218868437227405312) w:=
 run_float_arith (P:=prog) w .quo 49 .f64 4607182418800017408 0 9218868437227405312 xab
theorem eD{P a m}(k b):(store a (.float k b) m).run P w=stored P w a (.float k b) m:=run_store P w a _ m rfl
structure Kept (lo hi:Nat)(w w':World):Prop where
 os:w'.os=w.os
 tape:w'.tape=w.tape
 output:w'.output=w.output
 size:w.heap.size<=w'.heap.size
 block:∀k,k<w.heap.size->¬(lo<=k/\k<hi)->w'.heap[k]? =w.heap[k]?
theorem Kept.refl(lo hi w):Kept lo hi w w:=⟨rfl,rfl,rfl,yad,λ_ _ _=>rfl⟩
theorem hQ{w:World}:Kept 0 0 w w:=Kept.refl 0 0 w
theorem Kept.trans(h:Kept lo hi a b)(k:Kept lo hi b c):Kept lo hi a c:=
 ⟨k.os.trans h.os,k.tape.trans h.tape,k.output.trans h.output,yan h.size k.size,λi hi' hn=>(k.block i (yaj hi' h.size) hn).trans (h.block i hi' hn)⟩
theorem Kept.mono(h:Kept lo hi w J)(ad:∀k,k<w.heap.size->lo<=k/\k<hi->lo'<=k/\k<hi'):Kept lo' hi' w J:=
 ⟨h.os,h.tape,h.output,h.size,λk O hn=>h.block k O λc=>hn (ad k O c)⟩
theorem Kept.new{h'}(h:Kept lo hi a b)(k:Kept l h' b c)(ah:a.heap.size<=l):Kept lo hi a c:=
 ⟨k.os.trans h.os,k.tape.trans h.tape,k.output.trans h.output,yan h.size k.size,λi hi' hn=>(k.block i (yaj hi' h.size) (λc=>by omega)).trans (h.block i hi' hn)⟩
theorem Kept.below(h:Kept 0 0 w J):Below w.heap.size w J:=⟨h.os,h.tape,h.output,h.size,λk O=>h.block k O xaa⟩
theorem eM(lo hi w m):Kept lo hi w (w.drewN m):=⟨rfl,rfl,rfl,yad,λ_ _ _=>rfl⟩
theorem ez(lo hi w o):Kept lo hi w (w.alloc o):=⟨rfl,rfl,rfl,by simp,λk O _=>Below.heap_alloc w o k O⟩
theorem eX(w a v)(h:lo<=a.block/\a.block<hi\/w.heap.size<=a.block):Kept lo hi w (w.setCell a v):=
 ⟨rfl,rfl,rfl,by simp,λk O hn=>Below.heap_setCell w a v k (λe=>by omega)⟩
theorem Kept.cell(h:Kept lo hi w J){p}(aK:p.block<w.heap.size)(hn:¬(lo<=p.block/\p.block<hi)):J.cell? p=w.cell? p:=World.cell?_of_block (w:=w) (h.block p.block aK hn)
theorem Kept.frozen(h:Kept lo hi w J){p}(aK:p.block<w.heap.size)(hn:¬(lo<=p.block/\p.block<hi)):J.frozen? p=w.frozen? p:=World.frozen?_of_block (w:=w) (h.block p.block aK hn)
def Drawn (w w':World):Prop:=∃m,w'=w.drewN m
theorem Drawn.refl(w):Drawn w w:=⟨0,rfl⟩
theorem Drawn.more(h:Drawn w J)(n):Drawn w (J.drewN n):=by
 obtain⟨m,rfl⟩:=h;exact⟨_,World.drewN_drewN ..⟩
theorem Drawn.trans(h:Drawn a b)(k:Drawn b c):Drawn a c:=by
 obtain⟨m,rfl⟩:=k;exact h.more m
theorem Drawn.cell(h:Drawn w J)(p):J.cell? p=w.cell? p:=by obtain⟨m,rfl⟩:=h;rfl
theorem Drawn.kept(h:Drawn w J)(lo hi):Kept lo hi w J:=by obtain⟨m,rfl⟩:=h;exact eM _ _ w m
structure FS (w:World)(lo hi:Nat)(a:Option Addr)(n:Nat)(xs:List Nat):Prop where
 len:xs.length=n
 lt:∀x∈xs,x<18446744073709551616
 at_:n=0\/∃g off,a=some ⟨g,off,none⟩/\lo<=g/\g<hi/\g<w.heap.size/\∀k,k<n->w.cell? ⟨g,off+k,none⟩=some (.float .f64 (xs.getD k 0))
theorem FS.keep{a}(f:FS w lo hi a n xs)(k:Kept l h w J)(aV:hi<=l\/h<=lo\/h<=l):FS J lo hi a n xs:=
 ⟨f.len,f.lt,by
  rcases f.at_ with aj|⟨g,off,e,B,R,h3,a8⟩
  ·exact .inl aj
  ·exact .inr ⟨g,_,e,B,R,yaj h3 k.size,λj hj=>by rw[k.cell h3 (by show ¬(l<=g/\g<h);omega)];exact a8 j hj⟩⟩
theorem FS.mono{a}(f:FS w lo hi a n xs)(B:lo'<=lo)(R:hi<=hi'):FS w lo' hi' a n xs:=
 ⟨f.len,f.lt,by
  rcases f.at_ with aj|⟨g,off,e,a1,a2,a3,a4⟩
  ·exact .inl aj
  ·exact .inr ⟨g,_,e,by omega,by omega,a3,a4⟩⟩
theorem fx(h:∀x∈xs,x<18446744073709551616)(k):xs.getD k 0<18446744073709551616:=by
 rw[yah];by_cases O:k<xs.length
 ·exact xld
 rw[List.getElem?_eq_none xaa];exact(by omega:0<18446744073709551616)
def FR (w:World)(g:Nat)(xs:List Nat):Prop:=w.heap[g]? =some (.cells (xs.map (Value.float .f64)).toArray 49 (0,0))
theorem FR.lt(h:FR w g xs):g<w.heap.size:=by
 unfold FR at h;rcases Nat.lt_or_ge g w.heap.size with c|c
 ·exact c
 rw[Array.getElem?_eq_none c]at h;cases h
theorem FR.cell(h:FR w g xs)(k)(O:k<xs.length):w.cell? ⟨g,k,none⟩=some (.float .f64 (xs.getD k 0)):=by
 rw[cell_of_row w g k _ _ _ h];simp[O,List.getD_eq_getElem?_getD]
theorem FR.free(h:FR w g xs)(k):w.frozen? ⟨g,k,none⟩=false:=frozen_of_row w g k _ _ h
theorem FR.keep(f:FR w g xs)(k:Kept l h w J)(aV:g<l\/h<=g\/h<=l):FR J g xs:=by
 unfold FR;rw[k.block g f.lt xaa];exact f
theorem FR.set(h:FR w g xs)(k x):FR (w.setCell ⟨g,k,none⟩ (.float .f64 x)) g (xs.set k x):=by
 unfold FR at h⊢;exact qdc
theorem FR.fs(h:FR w g xs)(ah:∀x∈xs,x<18446744073709551616)(B:lo<=g)(R:g<hi):FS w lo hi (some ⟨g,0,none⟩) xs.length xs:=
 ⟨rfl,ah,.inr ⟨g,0,rfl,B,R,h.lt,λk O=>by rw[Nat.zero_add];exact h.cell k O⟩⟩
theorem FR.made(w:World)(n):FR (w.alloc (.cells (madeCells #[.float .f64 0] n) 49)) w.heap.size (List.replicate n 0):=by
 unfold FR;rw[heap_alloc_new]
 have:(madeCells #[.float .f64 0] n)=(List.map (Value.float .f64) (List.replicate n 0)).toArray:=by
  apply Array.toList_inj.1;rw[toList_madeCells_one];simp
 rw[this]
theorem lG:(prog.info? 49).map (λi=>(i.zero,i.size,i.bytes))=some (some (.float .f64 0),1,8):=by kernel_rfl
end
section
attribute [local go_sem] eG eE eD
variable {n:Int}{bd:List Nat}{lo k hi:Nat}{xs:List Int}{a:Option Addr}
theorem mH(n:Nat)(w)(hn:n<=1099511627776):
  (Instr.makeSlice 47 (hI n) (hI n)).run prog w=.ok (hH w.heap.size n n) (w.alloc (.cells (madeCells #[.float .f64 0] n) 49)):=by
 obtain⟨i,hi,bU,bO,bR⟩:=info_parts lG;have:=run_make (P:=prog) w 47 49 i (.float .f64 0) underlying47 hi bU .i64 .i64 n n xaa xaa (hW bR) xaa;exact qcn
def fU (xs ys:List Nat):Prop:=xs.map fb=ys.map fb
theorem jc{xs}(h:fU xs bd):xs.length=bd.length:=by
 have:=congrArg List.length h;simpa using this
theorem oQ{xs}(ah:xs.length=bd.length)(h:∀k,k<xs.length->fb (xs.getD k 0)=fb (bd.getD k 0)):fU xs bd:=by
 unfold fU;apply List.ext_getElem (by simpa using ah);intro i B R;have bj:i<xs.length:=by simpa using B
 have:=h i bj;simp only[List.getElem_map];rw[yah,yah,yal bj,yal (by omega:i<bd.length)]at this;exact this
theorem gO{xs}(h:fU xs bd)(k):fb (xs.getD k 0)=fb (bd.getD k 0):=by
 have:(xs.map fb)[k]? =(bd.map fb)[k]?:=by rw[h]
 rw[List.getElem?_map,List.getElem?_map]at this;rw[yah,yah];cases B:xs[k]?<;>cases R:bd[k]?<;>rw[B,R]at this<;>simp at this
 all_goals first|rfl|exact this
def lenB (n:Int):Bool:=decide (1<=n/\n<=1000)
theorem oR(B:1<=n)(R:n<=1000):lenB n=true:=decide_eq_true ⟨B,R⟩
theorem pH(h:¬(1<=n/\n<=1000)):lenB n=false:=yax h
theorem gH(n w):Calls prog 44 #[hI n] w λe J=>e=.returned (.bool (lenB n))/\J=w:=by
 by_cases B:1<=n
 ·by_cases R:n<=1000
  ·rw[oR B R];exact xhr
  rw[pH (λc=>R c.2)];have t:=yax R;exact xhr
 rw[pH (λc=>B c.1)];have t:=yax B;exact xhr
def cnt (op:Int):Nat:=if op=6\/op=9\/op=10\/op=11\/op=12\/op=13 then 1 else if op=2\/op=3\/op=4\/op=5\/op=7 then 2 else if op=8 then 3 else 0
theorem qh(op:Int):op=1\/op=2\/op=3\/op=4\/op=5\/op=6\/op=7\/op=8\/op=9\/op=10\/op=11\/op=12\/op=13\/(op≠1/\op≠2/\op≠3/\op≠4/\op≠5/\op≠6/\op≠7/\op≠8/\op≠9/\op≠10/\op≠11/\op≠12/\op≠13):=xaa
theorem qj(op w):Calls prog 73 #[hI op] w λe J=>e=.returned (hI (cnt op:Nat))/\J=w:=by
 rcases qh op with rfl|rfl|rfl|rfl|rfl|rfl|rfl|rfl|rfl|rfl|rfl|rfl|rfl|h
 ·exact xkt
 all_goals try
  (go_enter func73,ntmps73
   go_wp2
   go_ret
   exact⟨rfl,rfl⟩)
 obtain⟨B,R,h3,a8,bQ,bV,aA,aa,bm,ab,ae,ak,aq⟩:=h;have e:cnt op=0:=by grind [cnt]
 rw[e];have a6:=yam R;have bK:=yam h3;have b1:=yam a8;have bY:=yam bQ;have a7:=yam bV;have ai:=yam aA;have ax:=yam aa;have aB:=yam bm;have aD:=yam ab;have aF:=yam ae;have aL:=yam ak;have aM:=yam aq;clear e B R h3 a8 bQ bV aA aa bm ab ae ak aq;exact xkt
structure IS (w:World)(lo hi:Nat)(a:Option Addr)(n:Nat)(xs:List Int):Prop where
 len:xs.length=n
 at_:n=0\/∃g off,a=some ⟨g,off,none⟩/\lo<=g/\g<hi/\g<w.heap.size/\∀k,k<n->w.cell? ⟨g,off+k,none⟩=some (.int .i64 (xs.getD k 0))
theorem IS.keep{w J l h n}(f:IS w lo hi a n xs)(k:Kept l h w J)(aV:hi<=l\/h<=lo\/h<=l):IS J lo hi a n xs:=
 ⟨f.len,by
  rcases f.at_ with aj|⟨g,off,e,B,R,h3,a8⟩
  ·exact .inl aj
  ·exact .inr ⟨g,_,e,B,R,yaj h3 k.size,λj hj=>by rw[k.cell h3 (by grind)];grind⟩⟩
theorem IS.prefix{w n}(f:IS w lo hi a n xs)(m)(az:m<=n):IS w lo hi a m (xs.take m):=
 ⟨by rw[List.length_take,f.len];omega,by
  rcases f.at_ with aj|⟨g,off,e,a1,a2,a3,a4⟩<;>simp_all<;>grind⟩
theorem ES(O:k<xs.length)(h:(xs.take k).all (· ==n)=true)(t:(xs.getD k 0 !=n)=false):(xs.take (k+1)).all (· ==n)=true:=by
 rw[yat O,List.all_append,h];rw[yah,yal O]at t;simp at t;simp[t]
theorem IU(O:k<xs.length)(t:(xs.getD k 0 !=n)=true):xs.all (· ==n)=false:=by
 rw[yah,yal O]at t;simp at t;rw[List.all_eq_false];exact⟨xs[k],List.getElem_mem _,by simp[t]⟩
theorem Ay(w g off m cap n)(xs:List Int)(au:xs.length=m)(az:m<=1099511627776)
  (ai:∀k,k<m->w.cell? ⟨g,off+k,none⟩=some (hI (xs.getD k 0))):
  Calls prog 115 #[.slice (some ⟨g,off,none⟩) m cap,hI n] w λe J=>e=.returned (.bool (xs.all (· ==n)))/\J=w:=by
 have bl:V (∀k,k<m->w.cell? ⟨g,off+k,none⟩=some (hI (xs.getD k 0))):=ai;have bv:V (xs.length=m):=au;clear ai au;go_enter func115,ntmps115;go_wp2_with fail;go_loop [9] (λi=>∃k:Nat,k<=m/\i=hI k/\V ((xs.take k).all (· ==n)=true)) (λi=>m-(intOf i).toNat)
 case atStart=>exact⟨0,Nat.zero_le _,rfl,rfl⟩
 case round=>
  obtain⟨k,O,rfl,a7⟩:=hrel;by_cases aF:k<m
  ·have c:=bl.o k aF;cases t:(xs.getD k 0 !=n)
   ·have aa:V _:=ES (hU bv.o aF) a7.o t;generalize xs.getD k 0=x at c t;exact xeu
   have aa:V (xs.all (· ==n)=false):=IU (hU bv.o aF) t;generalize xs.getD k 0=x at c t;go_wp2;go_ret;exact⟨hX aa.o,rfl⟩
  obtain rfl:k=m:=xaa
  have aa:V (xs.all (· ==n)=true):=by
   exact xjv
  clear a7;go_wp2;go_ret;exact⟨hX aa.o,rfl⟩
theorem yu(w a cap n):
  Calls prog 115 #[.slice a 0 cap,hI n] w λe J=>e=.returned (.bool true)/\J=w:=by
 go_enter func115,ntmps115;exact xjb
theorem Mf(w lo hi a m cap n xs)(f:IS w lo hi a m xs)(az:m<=1099511627776):
  Calls prog 115 #[.slice a m cap,hI n] w λe J=>e=.returned (.bool (xs.all (· ==n)))/\J=w:=by
 rcases f.at_ with rfl|⟨g,off,rfl,a1,a2,a3,a4⟩
 ·have:xs=[]:=List.length_eq_zero_iff.1 f.len;subst this;exact yu w a cap n
 exact Ay w g off m cap n xs f.len az a4
def fI (i n:Int):Bool:=decide (0<=i/\i<n)
theorem iz(i n w):Calls prog 46 #[hI i,hI n] w λe J=>e=.returned (.bool (fI i n))/\J=w:=by
 by_cases B:0<=i
 ·by_cases R:i<n
  ·rw[show fI i n=true from decide_eq_true ⟨B,R⟩];exact xhs
  rw[show fI i n=false from yax (λc=>R c.2)];have t:=yax R;exact xhs
 rw[show fI i n=false from yax (λc=>B c.1)];have t:=yax B;exact xhs
abbrev ii (op len A B C:Int)(K:Nat):Value:=.agg #[.int .i64 op,.int .i64 len,.int .i64 A,.int .i64 B,.int .i64 C,.float .f64 K]
abbrev eK (op len A B C:Int)(K:Nat):Obj:=.cells #[.int .i64 op,.int .i64 len,.int .i64 A,.int .i64 B,.int .i64 C,.float .f64 K] 53
def eR (op len C:Int)(xs:List Int):Bool:=
 if op=9 then len==1&&lenB (xs.getD 0 0)
 else if op=10 then xs.getD 0 0==1
 else if op=11 then (len==1&&lenB (xs.getD 0 0))&&fI C (xs.getD 0 0)
 else if op=12 then xs.getD 0 0==1&&fI C len
 else if 1<=op/\op<=13 then xs.all (· ==len)
 else false
theorem CG(w op len A I C K lo hi a m cap xs)(f:IS w lo hi a m xs)(az:m<=3)
  (bZ:op=1\/op=2\/op=3\/op=4\/op=5\/op=6\/op=7\/op=8\/op=13):
  Calls prog 72 #[ii op len A I C K,.slice a m cap] w λe J=>e=.returned (.bool (eR op len C xs))/\J=w.alloc (eK op len A I C K):=by
 have p:=f.keep (ez 0 0 w (eK op len A I C K)) yaa;clear f;rcases bZ with rfl|rfl|rfl|rfl|rfl|rfl|rfl|rfl|rfl
 all_goals
  rw[show eR _ len C xs=xs.all (· ==len) by simp[eR]]
  go_enter func72,ntmps72
  go_wp2_with fail
  refine(Mf _ _ _ _ _ _ _ _ p xaa).mono ?_
  rintro e J ⟨rfl,rfl⟩
  go_wp2
  go_ret
  exact⟨rfl,rfl⟩
theorem Az(w op len A I C K a m cap xs)
  (h:op≠1/\op≠2/\op≠3/\op≠4/\op≠5/\op≠6/\op≠7/\op≠8/\op≠9/\op≠10/\op≠11/\op≠12/\op≠13):
  Calls prog 72 #[ii op len A I C K,.slice a m cap] w λe J=>e=.returned (.bool (eR op len C xs))/\J=w.alloc (eK op len A I C K):=by
 obtain⟨B,R,h3,a8,bQ,bV,aA,aa,bm,ab,ae,ak,aq⟩:=h;have e:eR op len C xs=false:=by unfold eR;rw[hJ bm,hJ ab,hJ ae,hJ ak,hJ xaa]
 rw[e];have aQ:(op==1)=false:=yam B;have a6:(op==2)=false:=yam R;have bK:(op==3)=false:=yam h3;have b1:(op==4)=false:=yam a8;have bY:(op==5)=false:=yam bQ;have a7:(op==6)=false:=yam bV;have ai:(op==7)=false:=yam aA;have ax:(op==8)=false:=yam aa;have aB:(op==9)=false:=yam bm;have aD:(op==10)=false:=yam ab;have aF:(op==11)=false:=yam ae;have aL:(op==12)=false:=yam ak;have aM:(op==13)=false:=yam aq;clear e B R h3 a8 bQ bV aA aa bm ab ae ak aq;go_enter func72,ntmps72;go_wp2;go_ret;exact⟨rfl,rfl⟩
theorem CH(w op len A I C x K g off cap)(aW:g<w.heap.size)(ai:w.cell? ⟨g,off,none⟩=some (hI x))
  (bZ:op=9\/op=10\/op=11\/op=12):
  Calls prog 72 #[ii op len A I C K,.slice (some ⟨g,off,none⟩) 1 cap] w λe J=>e=.returned (.bool (eR op len C [x]))/\Kept 0 0 w J:=by
 have R:(w.alloc (eK op len A I C K)).cell? ⟨g,off,none⟩=some (hI x):=by rw[World.cell?_alloc_past (hn:=aW)];exact ai
 rcases bZ with rfl|rfl|rfl|rfl
 ·
  cases t:(len==1)
  ·rw[show eR 9 len C [x]=false by simp[eR,t]]
   exact xhd
  ·rw[show eR 9 len C [x]=lenB x by simp[eR,t]]
   go_enter func72,ntmps72
   go_wp2_with fail
   refine(gH _ _).mono ?_
   exact xkw
 ·rw[show eR 10 len C [x]=(x==1) by simp[eR]];exact xhd
 ·cases t:(len==1)
  ·rw[show eR 11 len C [x]=false by simp[eR,t]];go_enter func72,ntmps72;go_wp2;go_quiet (fail)
   go_wp2;go_ret;exact⟨rfl,(ez _ _ _ _).trans (eM _ _ _ _)⟩
  cases a6:lenB x
  ·rw[show eR 11 len C [x]=false by simp[eR,a6]];exact xfo
  rw[show eR 11 len C [x]=fI C x by simp[eR,t,a6]];exact xfo
 cases t:(x==1)
 ·rw[show eR 12 len C [x]=false by simp[eR,t]];exact xhd
 rw[show eR 12 len C [x]=fI C len by simp[eR,t]];go_enter func72,ntmps72;go_wp2_with fail;refine(iz _ _ _).mono ?_;exact xkw
theorem gK(op):cnt op<=3:=by
 grind [cnt]
theorem qY(w op len A I C K lo hi a m cap xs)(f:IS w lo hi a m xs)(az:m=cnt op):
  Calls prog 72 #[ii op len A I C K,.slice a m cap] w λe J=>e=.returned (.bool (eR op len C xs))/\Kept 0 0 w J:=by
 have aw:(op=9\/op=10\/op=11\/op=12)->Calls prog 72 #[ii op len A I C K,.slice a m cap] w λe J=>e=.returned (.bool (eR op len C xs))/\Kept 0 0 w J:=by
  intro bZ;have ay:m=1:=by rw[az];rcases bZ with rfl|rfl|rfl|rfl<;>rfl
  subst ay;rcases f.at_ with aj|⟨g,off,rfl,a1,a2,a3,a4⟩
  ·omega
  obtain⟨x,rfl⟩:∃x,xs=[x]:=List.length_eq_one_iff.1 f.len;exact CH w op len A I C x K g off cap a3 (a4 0 xaa) bZ
 have l:m<=3:=by rw[az];exact gK op
 rcases qh op with h|h|h|h|h|h|h|h|h|h|h|h|h|h
 all_goals first
  |exact aw xaa
  |exact(CG w op len A I C K lo hi a m cap xs f l xaa).mono λ_ _ h=>⟨h.1,by rw[h.2];exact ez _ _ _ _⟩
  |exact(Az w op len A I C K a m cap xs h).mono λ_ _ h=>⟨h.1,by rw[h.2];exact ez _ _ _ _⟩
end
section
theorem sS(x y w):Calls prog 79 #[.float .f64 x,.float .f64 y] w λe J=>e=.returned (.float .f64 (fop .quo x y w))/\J=w.drewN (fnd .quo x y):=by
 have B:=@kK prog;have R:=wk;go_enter func79,ntmps79;go_wp2;go_ret;exact⟨rfl,rfl⟩
theorem qZ(x y w):Calls prog 78 #[.float .f64 x,.float .f64 y] w λe J=>e=.returned (.float .f64 (fop .mul x y w))/\J=w.drewN (fnd .mul x y):=by
 have B:=@mL prog;have R:=wk;go_enter func78,ntmps78;go_wp2;go_ret;exact⟨rfl,rfl⟩
theorem yv(x y w):Calls prog 76 #[.float .f64 x,.float .f64 y] w λe J=>e=.returned (.float .f64 (fop .add x y w))/\J=w.drewN (fnd .add x y):=by
 have B:=@qf prog;have R:=wk;go_enter func76,ntmps76;go_wp2;go_ret;exact⟨rfl,rfl⟩
def sc (r:Nat):Nat->Nat
 |0=>4607182418800017408
 |n+1=>cop .add (cop .quo (cop .mul r (sc r n)) (floatOfInt .f64 (14-(n:Int)))) 4607182418800017408
def csq (p:Nat):Nat->Nat
 |0=>p
 |n+1=>cop .mul (csq p n) (csq p n)
theorem sT{r p q n:Nat}(k aB af aX)(O:k=14-(n:Int))(h:fb p=fb (sc r n))
  (aq:q=fop .add (fop .quo (fop .mul r p aB) (floatOfInt .f64 k) af) 4607182418800017408 aX):fb q=fb (sc r (n+1)):=by
 subst O aq;rw[ik];unfold sc;congr 1;refine gL _ ?_ rfl;rw[ik];congr 1;refine gL _ ?_ rfl;rw[ik];congr 1;exact gL _ rfl h
def m8 (r n:Nat):Prop:=∀(k:Int) (w:World),n<=14->k=15-(n:Int)->
    Calls prog 132 #[.float .f64 r,.int .i64 k] w λe w'=>∃y,e=.returned (.float .f64 y)/\fb y=fb (sc r n)/\y<18446744073709551616/\∃m,w'=w.drewN m
theorem yw(r):m8 r 0:=by
 intro k w hn O;have ae:(14:Int)<k:=xaa;clear O;go_enter func132,ntmps132;go_wp2;go_ret;exact⟨_,rfl,rfl,by omega,0,rfl⟩
theorem yx(r n)(aj:m8 r n):m8 r (n+1):=by
 intro k w hn O;have er:k<=14:=xaa;have bY:1<=k:=xaa;have H:V (k=15-((n+1:Nat):Int)):=O;clear O;have B:=@qf prog;have R:=@mL prog;have h3:=@kK prog;go_enter func132,ntmps132;go_wp2_with fail;refine(aj _ _ xaa (hR H.o)).mono ?_;rintro e J ⟨y,rfl,bV,aF,m,rfl⟩;go_wp2;go_ret;exact⟨_,rfl,sT k _ _ _ (hR H.o) bV rfl,iE _ _ _ _,_,rfl⟩
theorem ET(r):∀n,m8 r n
 |0=>yw r
 |n+1=>yx r n (ET r n)
def qk (x:Nat):Nat:=
 if FloatKind.f64.format.order x x !=some .eq then x
 else if FloatKind.f64.format.order x 4652007308841189376==some .gt then 9218868437227405312
 else if FloatKind.f64.format.order x 13875379345695965184==some .lt then 0
 else csq (sc (cop .quo x 4652218415073722368) 14) 10
theorem pI{r j}(h:fb r=fb j):∀n,fb (sc r n)=fb (sc j n)
 |0=>rfl
 |n+1=>by
  unfold sc
  congr 1
  refine gL _ ?_ rfl
  congr 1
  refine gL _ ?_ rfl
  congr 1
  exact gL _ h (pI h n)
theorem wm{c y q k w}(h:fb y=fb (csq c k))(aq:q=fop .mul y y w):fb q=fb (csq c (k+1)):=by
 subst aq;rw[ik];unfold csq;congr 1;exact gL _ h h
theorem IV(x w)(au:x<18446744073709551616):
  Calls prog 100 #[.float .f64 x] w λe J=>∃y,e=.returned (.float .f64 y)/\fb y=fb (qk x)/\y<18446744073709551616/\∃m,J=w.drewN m:=by
 unfold qk;cases B:(FloatKind.f64.format.order x x !=some .eq)
 ·cases R:(FloatKind.f64.format.order x 4652007308841189376==some .gt)
  ·cases h3:(FloatKind.f64.format.order x 13875379345695965184==some .lt)
   ·simp only[Bool.false_eq_true,if_false];have aq:(binOp .quo 49 (.float .f64 x) (.float .f64 4652218415073722368)).run prog w=.ok (.float .f64 (fop .quo x 4652218415073722368 w)) (w.drewN (fnd .quo x 4652218415073722368)):=kK w 49 _ _;have ad:=ik .quo x 4652218415073722368 w;have l:=pI ad 14;clear ad;generalize fop .quo x 4652218415073722368 w=r at aq l;generalize fnd .quo x 4652218415073722368=S at aq;generalize sc (cop .quo x 4652218415073722368) 14=c at l⊢;go_enter func100,ntmps100;go_wp2_with fail;refine(oN _ _).mono ?_;rintro e J ⟨rfl,rfl⟩;go_wp2_with fail;refine(ET _ 14 _ _ xaa xaa).mono ?_;rintro e J ⟨y,rfl,bV,aF,m,rfl⟩;have g:=bV.trans l;clear aq bV l B R h3;have R:=@mL prog;go_wp2_with fail;go_loopw [4,5] (λp i W=>∃k N f,k<=10/\i=hI (k:Nat)/\p=.float .f64 N/\fb N=fb (csq c k)/\N<18446744073709551616/\W=J.drewN f) (λ_ i _=>10-(intOf i).toNat)
    case atStart=>exact⟨0,y,_,by omega,rfl,rfl,g,aF,rfl⟩
    case round=>
     obtain⟨k,N,f,O,rfl,rfl,bb,ah,rfl⟩:=hrel;by_cases h:k<10
     ·go_wp2;go_roundw
      case rel=>exact⟨k+1,_,_,by omega,by go_num,rfl,wm bb rfl,iE _ _ _ _,rfl⟩
      case measure=>simp[intOf];omega
     exact xkn
   simp only[Bool.false_eq_true,if_false,if_true];exact xgy
  simp only[Bool.false_eq_true,if_false,if_true];have a8:=qg;exact xgy
 simp only[if_true];go_enter func100,ntmps100;go_wp2_with fail;refine(oN _ _).mono ?_;exact xko
theorem IW(w):Calls prog 117 #[hI 1] w λe J=>e=.returned (.float .f64 9218868437227405312)/\J=w:=by
 have ai:=ER;go_enter func117,ntmps117;go_wp2;go_ret;exact⟨rfl,rfl⟩
theorem IX(x w)(au:x<18446744073709551616):
  Calls prog 87 #[.float .f64 x] w λe J=>∃y,e=.returned (.float .f64 y)/\fb y=fb (qk x)/\y<18446744073709551616/\∃m,J=w.drewN m:=by
 unfold qk;cases B:(FloatKind.f64.format.order x x !=some .eq)
 ·cases R:(FloatKind.f64.format.order x 4652007308841189376==some .gt)
  ·cases h3:(FloatKind.f64.format.order x 13875379345695965184==some .lt)
   ·simp only[Bool.false_eq_true,if_false];have ad:=ik .quo x 4652218415073722368 w;have l:=pI ad 14;clear ad;generalize sc (cop .quo x 4652218415073722368) 14=c at l⊢;go_enter func87,ntmps87;go_wp2_with fail;refine(oO _ _).mono ?_;rintro e J ⟨rfl,rfl⟩;go_wp2_with fail;refine(sS _ _ _).mono ?_;rintro e aD ⟨rfl,rfl⟩;clear B R h3;generalize fop .quo x 4652218415073722368 J=r at l⊢;generalize fnd .quo x 4652218415073722368=S;go_wp2_with fail;go_loopw [4,5] (λp i W=>∃k N f,k<=14/\i=hI (14-(k:Nat))/\p=.float .f64 N/\fb N=fb (sc r k)/\N<18446744073709551616/\W=J.drewN f) (λ_ i _=>(intOf i).toNat)
    case atStart=>exact⟨0,_,_,by omega,rfl,rfl,rfl,by omega,rfl⟩
    case round=>
     obtain⟨k,N,f,O,rfl,rfl,bb,ah,rfl⟩:=hrel;by_cases aF:k<14
     ·go_wp2_with fail;refine(qZ _ _ _).mono ?_;rintro e aD ⟨rfl,rfl⟩;go_wp2_with fail;refine(sS _ _ _).mono ?_;rintro e aD ⟨rfl,rfl⟩;go_wp2_with fail;refine(yv _ _ _).mono ?_;rintro e aD ⟨rfl,rfl⟩;go_wp2;go_roundw
      case rel=>first|exact⟨k+1,_,_,by omega,by go_num,rfl,sT (14-(k:Int)) _ _ _ rfl bb rfl,iE _ _ _ _,rfl⟩|((repeat apply Exists.intro);exact⟨⟨k+1,_,_,by omega,by go_num,rfl,sT (14-(k:Int)) _ _ _ rfl bb rfl,iE _ _ _ _,rfl⟩,rfl⟩)
      case measure=>simp[intOf];omega
     obtain rfl:k=14:=xaa;have ai:=bb.trans l;clear bb l;go_wp2_with fail;go_loopw [4,29] (λp i W=>∃k N f,k<=10/\i=hI (k:Nat)/\p=.float .f64 N/\fb N=fb (csq c k)/\N<18446744073709551616/\W=J.drewN f) (λ_ i _=>10-(intOf i).toNat)
     case atStart=>exact⟨0,_,_,by omega,rfl,rfl,ai,ah,rfl⟩
     case round=>
      obtain⟨k,j,g,O,rfl,rfl,bb,ah,rfl⟩:=hrel;by_cases h:k<10
      ·go_wp2_with fail;refine(qZ _ _ _).mono ?_;rintro e aD ⟨rfl,rfl⟩;go_wp2;go_roundw
       case rel=>first|exact⟨k+1,_,_,by omega,by go_num,rfl,wm bb rfl,iE _ _ _ _,rfl⟩|((repeat apply Exists.intro);exact⟨⟨k+1,_,_,by omega,by go_num,rfl,wm bb rfl,iE _ _ _ _,rfl⟩,rfl⟩)
       case measure=>simp[intOf];omega
      exact xkn
   simp only[Bool.false_eq_true,if_false,if_true];go_enter func87,ntmps87;go_wp2_with fail;refine(oO _ _).mono ?_;exact xfp
  simp only[Bool.false_eq_true,if_false,if_true];go_enter func87,ntmps87;go_wp2_with fail;refine(oO _ _).mono ?_;rintro e J ⟨rfl,rfl⟩;go_wp2_with fail;refine(IW _).mono ?_;exact xfp
 simp only[if_true];go_enter func87,ntmps87;go_wp2_with fail;refine(oO _ _).mono ?_;exact xko
