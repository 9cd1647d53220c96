import Derived.Test.YtaheilbiakhlgaaGreatP01
namespace Go.Proofs.Z
open Tryz Go.RowKit Flt
set_option maxRecDepth 1000000
set_option maxHeartbeats 0
section
variable{s:Bool}{x lo y r g hi u lo' N l hi' h n:Nat}{w J a b c:World}{xs:List Nat}
theorem LT(b w):(callFunc 160 #[.float .f64 b]).run prog w=.ok (.value (.int .u64 b)) w:=by
 rw[run_callFunc_extern (e:=Extern.MathFloatBits.float64bits) func160 (by kernel_rfl) (by kernel_rfl) (by kernel_rfl) (by kernel_rfl)];rfl
theorem LU(b w):(callFunc 153 #[.int .u64 b]).run prog w=.ok (.value (.float .f64 b.toNat)) w:=by
 rw[run_callFunc_extern (e:=Extern.MathFloatBits.float64frombits) func153 (by kernel_rfl) (by kernel_rfl) (by kernel_rfl) (by kernel_rfl)];rfl
theorem gL(x w):
  Calls prog 148 #[.float .f64 x] w λe J=>e=.returned (.bool (FloatKind.f64.format.order x x !=some .eq))/\J=w:=by
 go_enter func148,ntmps148;go_wp2;go_ret;exact⟨rfl,rfl⟩
theorem oQ(x w):
  Calls prog 131 #[.float .f64 x] w λe J=>e=.returned (.bool (FloatKind.f64.format.order x x !=some .eq))/\J=w:=by
 go_enter func131,ntmps131;go_wp2;go_ret;exact⟨rfl,rfl⟩
theorem vP(x w)(h:(FloatKind.f64.format.order x x !=some .eq)=false):
  Calls prog 150 #[.float .f64 x] w λe J=>e=.returned (.int .u64 x)/\J=w:=by
 have ak:=LT;exact xkh
theorem vQ(x w)(h:(FloatKind.f64.format.order x x !=some .eq)=true):
  Calls prog 150 #[.float .f64 x] w λe J=>e=.returned (.int .u64 9221120237041090560)/\J=w:=by
 exact xkh
theorem mC(h:r<=9218868437227405312):(FloatKind.f64.format.order (W s r) (W s r) !=some .eq)=false:=by
 rw[show FloatKind.f64.format.order (W s r) _=some _ from vN h];rfl
theorem nj(h:9218868437227405312<r)(av:r<9223372036854775808):(FloatKind.f64.format.order (W s r) (W s r) !=some .eq)=true:=by
 rw[show FloatKind.f64.format.order (W s r) _=none from vO h av];rfl
theorem rJ(s r w)(h:r<=9218868437227405312):
  Calls prog 159 #[.float .f64 (W s r)] w λe J=>e=.returned (.bool s)/\J=w:=by
 by_cases ai:r=0
 ·subst ai;have B:FloatKind.f64.format.order (W s 0) 0=some .eq:=jX;have U:=λw=>run_float_arith (P:=prog) w .quo 38 .f64 4607182418800017408 (W s 0) (W s 9218868437227405312) mO;have h3:FloatKind.f64.format.order (W s 9218868437227405312) 0=some (if s then .lt else .gt):=mR xaa xaa;exact xix
 have h3:FloatKind.f64.format.order (W s r) 0=some (if s then .lt else .gt):=mR xaa h;exact xix
def fb(x:Nat):Nat:=if FloatKind.f64.format.order x x !=some .eq then 9221120237041090560 else x
theorem Ez(x w):
  Calls prog 150 #[.float .f64 x] w λe J=>e=.returned (.int .u64 (fb x:Nat))/\J=w:=by
 unfold fb;cases h:(FloatKind.f64.format.order x x !=some .eq)
 ·exact vP x w h
 exact vQ x w h
theorem nV(h:r<=9218868437227405312):fb (W s r)=W s r:=by unfold fb;rw[mC h];rfl
theorem nu(h:9218868437227405312<r)(av:r<9223372036854775808):fb (W s r)=9221120237041090560:=by unfold fb;rw[nj h av];rfl
theorem Lm{t q}(av:r<9223372036854775808)(ao:q<9223372036854775808):(((W s r:Nat):Int)==((W t q:Nat):Int))=decide (r=q/\s=t):=by
 grind[Oy]
theorem qb(av:r<=9218868437227405312):(((W s r:Nat):Int)==9221120237041090560)=false/\((9221120237041090560:Int)==((W s r:Nat):Int))=false:=by
 grind[W]
abbrev f64:Ieee.Format:=FloatKind.f64.format
theorem zX(d:Ieee.Datum):(d.order d !=some .eq)=d.isNaN:=by
 cases d with
 |number s m i=>simp[Ieee.Datum.order,Ieee.Datum.isNaN]
 |infinity s=>cases s<;>rfl
 |nan s t=>rfl
theorem vR(x):(FloatKind.f64.format.order x x !=some .eq)=(FloatKind.f64.format.read x).isNaN:=zX _
theorem oR(h:(f64.read x).isNaN=true):fb x=9221120237041090560:=by
 unfold fb;rw[vR,h];rfl
theorem qW(h:(f64.read x).isNaN=false):fb x=x:=by
 unfold fb;rw[vR,h];rfl
theorem OE:(f64.read 9221120237041090560).isNaN=true:=xab
theorem mS(h:fb x=fb y):x=y\/((f64.read x).isNaN=true/\(f64.read y).isNaN=true):=by
 grind[qW,oR,OE]
theorem ux(ap:(f64.read x).isNaN=true)(bS:(f64.read y).isNaN=true):fb x=fb y:=by
 rw[oR ap,oR bS]
theorem lV{d:Ieee.Datum}(h:d.isNaN=true):∃s t,d=.nan s t:=by
 cases d with
 |number s m i=>cases h
 |infinity s=>cases h
 |nan s t=>exact⟨s,t,rfl⟩
theorem lC(h:fb x=fb u)(h':fb y=fb N):f64.order x y=f64.order u N:=by
 rcases mS h with rfl|⟨a,b⟩
 ·rcases mS h' with rfl|⟨c,d⟩
  ·rfl
  exact(nK (lV c)).trans (nK (lV d)).symm
 exact(lZ (lV a)).trans (lZ (lV b)).symm
theorem l9(op)(h:(f64.read x).isNaN=true):floatBits op .f64 x y=none:=by
 obtain⟨s,t,h⟩:=lV h;cases op<;>first|rfl|skip
 all_goals
  simp only[floatBits,Ieee.Format.add,Ieee.Format.sub,Ieee.Format.mul,Ieee.Format.div]
  rw[h]
  rfl
theorem lL(op)(h:(f64.read y).isNaN=true):floatBits op .f64 x y=none:=by
 obtain⟨s,t,h⟩:=lV h;cases op<;>first|rfl|skip
 all_goals
  simp only[floatBits,Ieee.Format.add,Ieee.Format.sub,Ieee.Format.mul,Ieee.Format.div]
  rw[h]
  cases f64.read x<;>rfl
def cop(op:BinOp)(x y:Nat):Nat:=(floatBits op .f64 x y).getD 9221120237041090560
theorem ib(op)(h:fb x=fb u)(h':fb y=fb N):cop op x y=cop op u N:=by
 unfold cop;rcases mS h with rfl|⟨a,b⟩
 ·rcases mS h' with rfl|⟨c,d⟩
  ·rfl
  rw[lL _ c,lL _ d]
 rw[l9 _ a,l9 _ b]
def fop(op:BinOp)(x y:Nat)(w:World):Nat:=
 (floatBits op .f64 x y).getD (Question.cut (.nanBits .f64 x y) (w.tape w.drawn (.nanBits .f64 x y)))
def fnd(op:BinOp)(x y:Nat):Nat:=if (floatBits op .f64 x y).isSome then 0 else 1
theorem Bo(x y t):(f64.read (Question.cut (.nanBits .f64 x y) t)).isNaN=true/\Question.cut (.nanBits .f64 x y) t<18446744073709551616:=by
 simp only[Question.cut];obtain⟨k,O,aB⟩:∃k,(t/2)%(2 ^ 52-1)=k/\k<4503599627370495:=⟨_,rfl,Nat.mod_lt _ xab⟩
 rw[O];rcases Nat.mod_two_eq_zero_or_one t with h|h
 ·rw[h];have e:0*2 ^ 63+9218868437227405312+1+k=W false (9218868437227405312+1+k):=by unfold W;simp
  exact xgz
 rw[h];have e:1*2 ^ 63+9218868437227405312+1+k=W true (9218868437227405312+1+k):=by unfold W;simp;omega
 exact xgz
theorem ie(op x y w):fb (fop op x y w)=fb (cop op x y):=by
 unfold fop cop;cases floatBits op .f64 x y with
 |none=>grind[ux,Bo,OE]
 |some r=>rfl
theorem iB(op x y w):fop op x y w<18446744073709551616:=by
 unfold fop;cases h:floatBits op .f64 x y with
 |none=>grind[Bo]
 |some r=>
  have:=floatBits_wf h;simpa[Lit.wf] using this
section
variable{P:Program} (w:World)
theorem r8(op)(ax:op=.add\/op=.sub\/op=.mul\/op=.quo)(t x y):
  (binOp op t (.float .f64 x) (.float .f64 y)).run P w=.ok (.float .f64 (fop op x y w)) (w.drewN (fnd op x y)):=by
 cases h:floatBits op .f64 x y with
 |some r=>
  have af:fop op x y w=r:=by unfold fop;rw[h];rfl
  have a0:fnd op x y=0:=by unfold fnd;rw[h];rfl
  rw[af,a0,World.drewN_zero];exact run_float_arith w _ t _ x y r h
 |none=>
  have af:fop op x y w=Question.cut (.nanBits .f64 x y) (w.tape w.drawn (.nanBits .f64 x y)):=by unfold fop;rw[h];rfl
  have a0:fnd op x y=1:=by unfold fnd;rw[h];rfl
  rw[af,a0];unfold floatBits at h;rcases ax with rfl|rfl|rfl|rfl
  all_goals
   simp only at h
   simp[binOp,Op.floatArith,h,choose,Sem.run,Question.forced]
   rfl
theorem qd(t x y):(binOp .add t (.float .f64 x) (.float .f64 y)).run P w=.ok (.float .f64 (fop .add x y w)) (w.drewN (fnd .add x y)):=r8 w .add xac t x y
theorem xV(t x y):(binOp .sub t (.float .f64 x) (.float .f64 y)).run P w=.ok (.float .f64 (fop .sub x y w)) (w.drewN (fnd .sub x y)):=r8 w .sub xac t x y
theorem mT(t x y):(binOp .mul t (.float .f64 x) (.float .f64 y)).run P w=.ok (.float .f64 (fop .mul x y w)) (w.drewN (fnd .mul x y)):=r8 w .mul xac t x y
theorem kL(t x y):(binOp .quo t (.float .f64 x) (.float .f64 y)).run P w=.ok (.float .f64 (fop .quo x y w)) (w.drewN (fnd .quo x y)):=r8 w .quo xac t x y
end
theorem vS(b w):(convert 38 38 (.float .f64 b)).run prog w=.ok (.float .f64 b) w:=
 run_convert_float_float w 38 38 .f64 .f64 b b (by kernel_rfl) underlying38 (by simp[floatToFloatBits])
theorem qe(w):(binOp .quo 38 (.float .f64 4607182418800017408) (.float .f64 0)).run prog w=.ok (.float .f64 9218868437227405312) w:=
 run_float_arith (P:=prog) w .quo 38 .f64 4607182418800017408 0 9218868437227405312 xab
theorem eD{P a m}(k b):(store a (.float k b) m).run P w=stored P w a (.float k b) m:=run_store P w a _ m rfl
structure Kept(lo hi:Nat)(w w':World):Prop where
 os:w'.os=w.os
 tape:w'.tape=w.tape
 output:w'.output=w.output
 size:w.heap.size<=w'.heap.size
 block:∀k,k<w.heap.size->¬(lo<=k/\k<hi)->w'.heap[k]? =w.heap[k]?
theorem Kept.refl(lo hi w):Kept lo hi w w:=⟨rfl,rfl,rfl,yad,λ_ _ _=>rfl⟩
theorem hN{w:World}:Kept 0 0 w w:=Kept.refl 0 0 w
theorem Kept.trans(h:Kept lo hi a b)(k:Kept lo hi b c):Kept lo hi a c:=
 ⟨k.os.trans h.os,k.tape.trans h.tape,k.output.trans h.output,yan h.size k.size,λi hi' hn=>(k.block i (yaj hi' h.size) hn).trans (h.block i hi' hn)⟩
theorem Kept.mono(h:Kept lo hi w J)(ae:∀k,k<w.heap.size->lo<=k/\k<hi->lo'<=k/\k<hi'):Kept lo' hi' w J:=
 ⟨h.os,h.tape,h.output,h.size,λk O hn=>h.block k O λc=>hn (ae k O c)⟩
theorem Kept.new{h'}(h:Kept lo hi a b)(k:Kept l h' b c)(ah:a.heap.size<=l):Kept lo hi a c:=
 ⟨k.os.trans h.os,k.tape.trans h.tape,k.output.trans h.output,yan h.size k.size,λi hi' hn=>(k.block i (yaj hi' h.size) (λc=>by omega)).trans (h.block i hi' hn)⟩
theorem Kept.below(h:Kept 0 0 w J):Below w.heap.size w J:=⟨h.os,h.tape,h.output,h.size,λk O=>h.block k O xaa⟩
theorem eL(lo hi w m):Kept lo hi w (w.drewN m):=⟨rfl,rfl,rfl,yad,λ_ _ _=>rfl⟩
theorem ez(lo hi w o):Kept lo hi w (w.alloc o):=⟨rfl,rfl,rfl,by simp,λk O _=>Below.heap_alloc w o k O⟩
theorem eU(w a v)(h:lo<=a.block/\a.block<hi\/w.heap.size<=a.block):Kept lo hi w (w.setCell a v):=
 ⟨rfl,rfl,rfl,by simp,λk O hn=>Below.heap_setCell w a v k (λe=>by omega)⟩
theorem Kept.cell(h:Kept lo hi w J){p}(aF:p.block<w.heap.size)(hn:¬(lo<=p.block/\p.block<hi)):J.cell? p=w.cell? p:=World.cell?_of_block (w:=w) (h.block p.block aF hn)
theorem Kept.frozen(h:Kept lo hi w J){p}(aF:p.block<w.heap.size)(hn:¬(lo<=p.block/\p.block<hi)):J.frozen? p=w.frozen? p:=World.frozen?_of_block (w:=w) (h.block p.block aF hn)
def Drawn(w w':World):Prop:=∃m,w'=w.drewN m
theorem Drawn.refl(w):Drawn w w:=⟨0,rfl⟩
theorem Drawn.more(h:Drawn w J)(n):Drawn w (J.drewN n):=by
 obtain⟨m,rfl⟩:=h;exact⟨_,World.drewN_drewN ..⟩
theorem Drawn.trans(h:Drawn a b)(k:Drawn b c):Drawn a c:=by
 obtain⟨m,rfl⟩:=k;exact h.more m
theorem Drawn.cell(h:Drawn w J)(p):J.cell? p=w.cell? p:=by obtain⟨m,rfl⟩:=h;rfl
theorem Drawn.kept(h:Drawn w J)(lo hi):Kept lo hi w J:=by obtain⟨m,rfl⟩:=h;exact eL _ _ w m
structure FS(w:World)(lo hi:Nat)(a:Option Addr)(n:Nat)(xs:List Nat):Prop where
 len:xs.length=n
 lt:∀x∈xs,x<18446744073709551616
 at_:n=0\/∃g off,a=some ⟨g,off,none⟩/\lo<=g/\g<hi/\g<w.heap.size/\∀k,k<n->w.cell? ⟨g,off+k,none⟩=some (.float .f64 (xs.getD k 0))
theorem FS.keep{a}(f:FS w lo hi a n xs)(k:Kept l h w J)(G:hi<=l\/h<=lo\/h<=l):FS J lo hi a n xs:=
 ⟨f.len,f.lt,by
  rcases f.at_ with ai|⟨g,off,e,B,U,h3,a6⟩
  ·exact .inl ai
  ·exact .inr ⟨g,_,e,B,U,yaj h3 k.size,λj hj=>by rw[k.cell h3 (by show ¬(l<=g/\g<h);omega)];exact a6 j hj⟩⟩
theorem FS.mono{a}(f:FS w lo hi a n xs)(B:lo'<=lo)(U:hi<=hi'):FS w lo' hi' a n xs:=
 ⟨f.len,f.lt,by
  rcases f.at_ with ai|⟨g,off,e,a1,Z,a3,a4⟩
  ·exact .inl ai
  ·exact .inr ⟨g,_,e,by omega,by omega,a3,a4⟩⟩
theorem fC(h:∀x∈xs,x<18446744073709551616)(k):xs.getD k 0<18446744073709551616:=by
 rw[yah];by_cases O:k<xs.length
 ·exact xla
 rw[List.getElem?_eq_none xaa];exact(by omega:0<18446744073709551616)
def FR(w:World)(g:Nat)(xs:List Nat):Prop:=w.heap[g]? =some (.cells (xs.map (Value.float .f64)).toArray 38 (0,0))
theorem FR.lt(h:FR w g xs):g<w.heap.size:=by
 unfold FR at h;rcases Nat.lt_or_ge g w.heap.size with c|c
 ·exact c
 rw[Array.getElem?_eq_none c]at h;cases h
theorem FR.cell(h:FR w g xs)(k)(O:k<xs.length):w.cell? ⟨g,k,none⟩=some (.float .f64 (xs.getD k 0)):=by
 rw[cell_of_row w g k _ _ _ h];simp[O,List.getD_eq_getElem?_getD]
theorem FR.free(h:FR w g xs)(k):w.frozen? ⟨g,k,none⟩=false:=frozen_of_row w g k _ _ h
theorem FR.keep(f:FR w g xs)(k:Kept l h w J)(G:g<l\/h<=g\/h<=l):FR J g xs:=by
 unfold FR;rw[k.block g f.lt xaa];exact f
theorem FR.set(h:FR w g xs)(k x):FR (w.setCell ⟨g,k,none⟩ (.float .f64 x)) g (xs.set k x):=by
 unfold FR at h⊢;exact qdk
theorem FR.fs(h:FR w g xs)(ah:∀x∈xs,x<18446744073709551616)(B:lo<=g)(U:g<hi):FS w lo hi (some ⟨g,0,none⟩) xs.length xs:=
 ⟨rfl,ah,.inr ⟨g,0,rfl,B,U,h.lt,λk O=>by rw[Nat.zero_add];exact h.cell k O⟩⟩
theorem FR.made(w:World)(n):FR (w.alloc (.cells (madeCells #[.float .f64 0] n) 38)) w.heap.size (List.replicate n 0):=by
 unfold FR;rw[heap_alloc_new]
 have:(madeCells #[.float .f64 0] n)=(List.map (Value.float .f64) (List.replicate n 0)).toArray:=by
  apply Array.toList_inj.1;rw[toList_madeCells_one];simp
 rw[this]
theorem lD:(prog.info? 38).map (λi=>(i.zero,i.size,i.bytes))=some (some (.float .f64 0),1,8):=by kernel_rfl
end
section
attribute[local go_sem] eF eE eD
variable{n:Int}{bc:List Nat}{lo k hi:Nat}{xs:List Int}{a:Option Addr}
theorem mP(n:Nat)(w)(hn:n<=1099511627776):
  (Instr.makeSlice 54 (hF n) (hF n)).run prog w=.ok (hE w.heap.size n n) (w.alloc (.cells (madeCells #[.float .f64 0] n) 38)):=by
 obtain⟨i,hi,bn,bQ,br⟩:=info_parts lD;have:=run_make (P:=prog) w 54 38 i (.float .f64 0) underlying54 hi bn .i64 .i64 n n xaa xaa (hT br) xaa;exact qct
def gH(xs ys:List Nat):Prop:=xs.map fb=ys.map fb
theorem jY{xs}(h:gH xs bc):xs.length=bc.length:=by
 have:=congrArg List.length h;simpa using this
theorem vT{xs}(ah:xs.length=bc.length)(h:∀k,k<xs.length->fb (xs.getD k 0)=fb (bc.getD k 0)):gH xs bc:=by
 unfold gH;apply List.ext_getElem (by simpa using ah);intro i B U;have bf:i<xs.length:=by simpa using B
 have:=h i bf;simp only[List.getElem_map];rw[yah,yah,yal bf,yal (by omega:i<bc.length)]at this;exact this
theorem io{xs}(h:gH xs bc)(k):fb (xs.getD k 0)=fb (bc.getD k 0):=by
 have:(xs.map fb)[k]? =(bc.map fb)[k]?:=by rw[h]
 rw[List.getElem?_map,List.getElem?_map]at this;rw[yah,yah];cases B:xs[k]?<;>cases U:bc[k]?<;>rw[B,U]at this<;>simp at this
 all_goals first|rfl|exact this
def lenB(n:Int):Bool:=decide (1<=n/\n<=1000)
theorem oS(B:1<=n)(U:n<=1000):lenB n=true:=decide_eq_true ⟨B,U⟩
theorem pF(h:¬(1<=n/\n<=1000)):lenB n=false:=yax h
theorem gI(n w):Calls prog 51 #[hF n] w λe J=>e=.returned (.bool (lenB n))/\J=w:=by
 by_cases B:1<=n
 ·by_cases U:n<=1000
  ·rw[oS B U];exact xhm
  rw[pF (λc=>U c.2)];have t:=yax U;exact xhm
 rw[pF (λc=>B c.1)];have t:=yax B;exact xhm
def cnt(op:Int):Nat:=if op=6\/op=9\/op=10\/op=11\/op=12\/op=13 then 1 else if op=2\/op=3\/op=4\/op=5\/op=7 then 2 else if op=8 then 3 else 0
theorem qf(op:Int):op=1\/op=2\/op=3\/op=4\/op=5\/op=6\/op=7\/op=8\/op=9\/op=10\/op=11\/op=12\/op=13\/(op≠1/\op≠2/\op≠3/\op≠4/\op≠5/\op≠6/\op≠7/\op≠8/\op≠9/\op≠10/\op≠11/\op≠12/\op≠13):=xaa
theorem qg(op w):Calls prog 83 #[hF op] w λe J=>e=.returned (hF (cnt op:Nat))/\J=w:=by
 rcases qf op with rfl|rfl|rfl|rfl|rfl|rfl|rfl|rfl|rfl|rfl|rfl|rfl|rfl|h
 ·exact xkn
 all_goals try
  (go_enter func83,ntmps83
   go_wp2
   go_ret
   exact⟨rfl,rfl⟩)
 obtain⟨B,U,h3,a6,bK,bm,bP,R,ab,af,aj,av,ay⟩:=h;have e:cnt op=0:=by grind[cnt]
 rw[e];have aX:=yam U;have ah:=yam h3;have bg:=yam a6;have a2:=yam bK;have bL:=yam bm;have ak:=yam bP;have ao:=yam R;have aG:=yam ab;have aI:=yam af;have aJ:=yam aj;have aM:=yam av;have aN:=yam ay;clear e B U h3 a6 bK bm bP R ab af aj av ay;exact xkn
structure IS(w:World)(lo hi:Nat)(a:Option Addr)(n:Nat)(xs:List Int):Prop where
 len:xs.length=n
 at_:n=0\/∃g off,a=some ⟨g,off,none⟩/\lo<=g/\g<hi/\g<w.heap.size/\∀k,k<n->w.cell? ⟨g,off+k,none⟩=some (.int .i64 (xs.getD k 0))
theorem IS.keep{w J l h n}(f:IS w lo hi a n xs)(k:Kept l h w J)(G:hi<=l\/h<=lo\/h<=l):IS J lo hi a n xs:=
 ⟨f.len,by
  rcases f.at_ with ai|⟨g,off,e,B,U,h3,a6⟩
  ·exact .inl ai
  ·exact .inr ⟨g,_,e,B,U,yaj h3 k.size,λj hj=>by rw[k.cell h3 (by grind)];grind⟩⟩
theorem IS.prefix{w n}(f:IS w lo hi a n xs)(m)(aw:m<=n):IS w lo hi a m (xs.take m):=
 ⟨by rw[List.length_take,f.len];omega,by
  rcases f.at_ with ai|⟨g,off,e,a1,Z,a3,a4⟩<;>simp_all<;>grind⟩
theorem EA(O:k<xs.length)(h:(xs.take k).all (· ==n)=true)(t:(xs.getD k 0 !=n)=false):(xs.take (k+1)).all (· ==n)=true:=by
 rw[yat O,List.all_append,h];rw[yah,yal O]at t;simp at t;simp[t]
theorem IA(O:k<xs.length)(t:(xs.getD k 0 !=n)=true):xs.all (· ==n)=false:=by
 rw[yah,yal O]at t;simp at t;rw[List.all_eq_false];exact⟨xs[k],List.getElem_mem _,by simp[t]⟩
theorem zY(w g off m cap n)(xs:List Int)(ap:xs.length=m)(aw:m<=1099511627776)
  (ak:∀k,k<m->w.cell? ⟨g,off+k,none⟩=some (hF (xs.getD k 0))):
  Calls prog 130 #[.slice (some ⟨g,off,none⟩) m cap,hF n] w λe J=>e=.returned (.bool (xs.all (· ==n)))/\J=w:=by
 have bg:V (∀k,k<m->w.cell? ⟨g,off+k,none⟩=some (hF (xs.getD k 0))):=ak;have bu:V (xs.length=m):=ap;clear ak ap;go_enter func130,ntmps130;go_wp2_with fail;go_loop [9] (λi=>∃k:Nat,k<=m/\i=hF k/\V ((xs.take k).all (· ==n)=true)) (λi=>m-(intOf i).toNat)
 case atStart=>exact⟨0,Nat.zero_le _,rfl,rfl⟩
 case round=>
  obtain⟨k,O,rfl,a2⟩:=hrel;by_cases aB:k<m
  ·have c:=bg.o k aB;cases t:(xs.getD k 0 !=n)
   ·have R:V _:=EA (hR bu.o aB) a2.o t;generalize xs.getD k 0=x at c t;exact xds
   have R:V (xs.all (· ==n)=false):=IA (hR bu.o aB) t;generalize xs.getD k 0=x at c t;go_wp2;go_ret;exact⟨hU R.o,rfl⟩
  obtain rfl:k=m:=xaa
  have R:V (xs.all (· ==n)=true):=by
   exact xjp
  clear a2;go_wp2;go_ret;exact⟨hU R.o,rfl⟩
theorem xW(w a cap n):
  Calls prog 130 #[.slice a 0 cap,hF n] w λe J=>e=.returned (.bool true)/\J=w:=by
 go_enter func130,ntmps130;exact xiu
theorem LW(w lo hi a m cap n xs)(f:IS w lo hi a m xs)(aw:m<=1099511627776):
  Calls prog 130 #[.slice a m cap,hF n] w λe J=>e=.returned (.bool (xs.all (· ==n)))/\J=w:=by
 rcases f.at_ with rfl|⟨g,off,rfl,a1,Z,a3,a4⟩
 ·have:xs=[]:=List.length_eq_zero_iff.1 f.len;subst this;exact xW w a cap n
 exact zY w g off m cap n xs f.len aw a4
def fN(i n:Int):Bool:=decide (0<=i/\i<n)
theorem it(i n w):Calls prog 53 #[hF i,hF n] w λe J=>e=.returned (.bool (fN i n))/\J=w:=by
 by_cases B:0<=i
 ·by_cases U:i<n
  ·rw[show fN i n=true from decide_eq_true ⟨B,U⟩];exact xhn
  rw[show fN i n=false from yax (λc=>U c.2)];have t:=yax U;exact xhn
 rw[show fN i n=false from yax (λc=>B c.1)];have t:=yax B;exact xhn
abbrev gO(op len A B C:Int)(K:Nat):Value:=.agg #[.int .i64 op,.int .i64 len,.int .i64 A,.int .i64 B,.int .i64 C,.float .f64 K]
abbrev eM(op len A B C:Int)(K:Nat):Obj:=.cells #[.int .i64 op,.int .i64 len,.int .i64 A,.int .i64 B,.int .i64 C,.float .f64 K] 40
def eR(op len C:Int)(xs:List Int):Bool:=
 if op=9 then len==1&&lenB (xs.getD 0 0)
 else if op=10 then xs.getD 0 0==1
 else if op=11 then (len==1&&lenB (xs.getD 0 0))&&fN C (xs.getD 0 0)
 else if op=12 then xs.getD 0 0==1&&fN C len
 else if 1<=op/\op<=13 then xs.all (· ==len)
 else false
theorem Cq(w op len A I C K lo hi a m cap xs)(f:IS w lo hi a m xs)(aw:m<=3)
  (b7:op=1\/op=2\/op=3\/op=4\/op=5\/op=6\/op=7\/op=8\/op=13):
  Calls prog 82 #[gO op len A I C K,.slice a m cap] w λe J=>e=.returned (.bool (eR op len C xs))/\J=w.alloc (eM op len A I C K):=by
 have p:=f.keep (ez 0 0 w (eM op len A I C K)) yaa;clear f;rcases b7 with rfl|rfl|rfl|rfl|rfl|rfl|rfl|rfl|rfl
 all_goals
  rw[show eR _ len C xs=xs.all (· ==len) by simp[eR]]
  go_enter func82,ntmps82
  go_wp2_with fail
  refine(LW _ _ _ _ _ _ _ _ p xaa).mono ?_
  rintro e J ⟨rfl,rfl⟩
  go_wp2
  go_ret
  exact⟨rfl,rfl⟩
theorem zZ(w op len A I C K a m cap xs)
  (h:op≠1/\op≠2/\op≠3/\op≠4/\op≠5/\op≠6/\op≠7/\op≠8/\op≠9/\op≠10/\op≠11/\op≠12/\op≠13):
  Calls prog 82 #[gO op len A I C K,.slice a m cap] w λe J=>e=.returned (.bool (eR op len C xs))/\J=w.alloc (eM op len A I C K):=by
 obtain⟨B,U,h3,a6,bK,bm,bP,R,ab,af,aj,av,ay⟩:=h;have e:eR op len C xs=false:=by unfold eR;rw[hG ab,hG af,hG aj,hG av,hG xaa]
 rw[e];have aO:(op==1)=false:=yam B;have aX:(op==2)=false:=yam U;have ah:(op==3)=false:=yam h3;have bg:(op==4)=false:=yam a6;have a2:(op==5)=false:=yam bK;have bL:(op==6)=false:=yam bm;have ak:(op==7)=false:=yam bP;have ao:(op==8)=false:=yam R;have aG:(op==9)=false:=yam ab;have aI:(op==10)=false:=yam af;have aJ:(op==11)=false:=yam aj;have aM:(op==12)=false:=yam av;have aN:(op==13)=false:=yam ay;clear e B U h3 a6 bK bm bP R ab af aj av ay;go_enter func82,ntmps82;go_wp2;go_ret;exact⟨rfl,rfl⟩
theorem Cr(w op len A I C x K g off cap)(aQ:g<w.heap.size)(ak:w.cell? ⟨g,off,none⟩=some (hF x))
  (b7:op=9\/op=10\/op=11\/op=12):
  Calls prog 82 #[gO op len A I C K,.slice (some ⟨g,off,none⟩) 1 cap] w λe J=>e=.returned (.bool (eR op len C [x]))/\Kept 0 0 w J:=by
 have ai:(w.alloc (eM op len A I C K)).cell? ⟨g,off,none⟩=some (hF x):=by rw[World.cell?_alloc_past (hn:=aQ)];exact ak
 rcases b7 with rfl|rfl|rfl|rfl
 ·
  cases t:(len==1)
  ·rw[show eR 9 len C [x]=false by simp[eR,t]]
   exact xgv
  ·rw[show eR 9 len C [x]=lenB x by simp[eR,t]]
   go_enter func82,ntmps82
   go_wp2_with fail
   refine(gI _ _).mono ?_
   exact xkt
 ·rw[show eR 10 len C [x]=(x==1) by simp[eR]];exact xgv
 ·cases t:(len==1)
  ·rw[show eR 11 len C [x]=false by simp[eR,t]];go_enter func82,ntmps82;go_wp2;go_quiet (fail)
   go_wp2;go_ret;exact⟨rfl,(ez _ _ _ _).trans (eL _ _ _ _)⟩
  cases aX:lenB x
  ·rw[show eR 11 len C [x]=false by simp[eR,aX]];exact xfm
  rw[show eR 11 len C [x]=fN C x by simp[eR,t,aX]];exact xfm
 cases t:(x==1)
 ·rw[show eR 12 len C [x]=false by simp[eR,t]];exact xgv
 rw[show eR 12 len C [x]=fN C len by simp[eR,t]];go_enter func82,ntmps82;go_wp2_with fail;refine(it _ _ _).mono ?_;exact xkt
theorem gK(op):cnt op<=3:=by
 grind[cnt]
theorem qX(w op len A I C K lo hi a m cap xs)(f:IS w lo hi a m xs)(aw:m=cnt op):
  Calls prog 82 #[gO op len A I C K,.slice a m cap] w λe J=>e=.returned (.bool (eR op len C xs))/\Kept 0 0 w J:=by
 have au:(op=9\/op=10\/op=11\/op=12)->Calls prog 82 #[gO op len A I C K,.slice a m cap] w λe J=>e=.returned (.bool (eR op len C xs))/\Kept 0 0 w J:=by
  intro b7;have a5:m=1:=by rw[aw];rcases b7 with rfl|rfl|rfl|rfl<;>rfl
  subst a5;rcases f.at_ with ai|⟨g,off,rfl,a1,Z,a3,a4⟩
  ·omega
  obtain⟨x,rfl⟩:∃x,xs=[x]:=List.length_eq_one_iff.1 f.len;exact Cr w op len A I C x K g off cap a3 (a4 0 xaa) b7
 have l:m<=3:=by rw[aw];exact gK op
 rcases qf op with h|h|h|h|h|h|h|h|h|h|h|h|h|h
 all_goals first
  |exact au xaa
  |exact(Cq w op len A I C K lo hi a m cap xs f l xaa).mono λ_ _ h=>⟨h.1,by rw[h.2];exact ez _ _ _ _⟩
  |exact(zZ w op len A I C K a m cap xs h).mono λ_ _ h=>⟨h.1,by rw[h.2];exact ez _ _ _ _⟩
end
section
theorem sD(x y w):Calls prog 89 #[.float .f64 x,.float .f64 y] w λe J=>e=.returned (.float .f64 (fop .quo x y w))/\J=w.drewN (fnd .quo x y):=by
 have B:=@kL prog;have U:=vS;go_enter func89,ntmps89;go_wp2;go_ret;exact⟨rfl,rfl⟩
theorem qY(x y w):Calls prog 88 #[.float .f64 x,.float .f64 y] w λe J=>e=.returned (.float .f64 (fop .mul x y w))/\J=w.drewN (fnd .mul x y):=by
 have B:=@mT prog;have U:=vS;go_enter func88,ntmps88;go_wp2;go_ret;exact⟨rfl,rfl⟩
theorem xX(x y w):Calls prog 86 #[.float .f64 x,.float .f64 y] w λe J=>e=.returned (.float .f64 (fop .add x y w))/\J=w.drewN (fnd .add x y):=by
 have B:=@qd prog;have U:=vS;go_enter func86,ntmps86;go_wp2;go_ret;exact⟨rfl,rfl⟩
def rV(r:Nat):Nat->Nat
 |0=>4607182418800017408
 |n+1=>cop .add (cop .quo (cop .mul r (rV r n)) (floatOfInt .f64 (14-(n:Int)))) 4607182418800017408
def csq(p:Nat):Nat->Nat
 |0=>p
 |n+1=>cop .mul (csq p n) (csq p n)
theorem sE{r p q n:Nat}(k aG ag a8)(O:k=14-(n:Int))(h:fb p=fb (rV r n))
  (ao:q=fop .add (fop .quo (fop .mul r p aG) (floatOfInt .f64 k) ag) 4607182418800017408 a8):fb q=fb (rV r (n+1)):=by
 subst O ao;rw[ie];unfold rV;congr 1;refine ib _ ?_ rfl;rw[ie];congr 1;refine ib _ ?_ rfl;rw[ie];congr 1;exact ib _ rfl h
def nw(r n:Nat):Prop:=∀(k:Int) (w:World),n<=14->k=15-(n:Int)->
    Calls prog 149 #[.float .f64 r,.int .i64 k] w λe w'=>∃y,e=.returned (.float .f64 y)/\fb y=fb (rV r n)/\y<18446744073709551616/\∃m,w'=w.drewN m
theorem xY(r):nw r 0:=by
 intro k w hn O;have af:(14:Int)<k:=xaa;clear O;go_enter func149,ntmps149;go_wp2;go_ret;exact⟨_,rfl,rfl,by omega,0,rfl⟩
theorem xZ(r n)(Q:nw r n):nw r (n+1):=by
 intro k w hn O;have ek:k<=14:=xaa;have bZ:1<=k:=xaa;have H:V (k=15-((n+1:Nat):Int)):=O;clear O;have B:=@qd prog;have U:=@mT prog;have h3:=@kL prog;go_enter func149,ntmps149;go_wp2_with fail;refine(Q _ _ xaa (hO H.o)).mono ?_;rintro e J ⟨y,rfl,bS,aB,m,rfl⟩;go_wp2;go_ret;exact⟨_,rfl,sE k _ _ _ (hO H.o) bS rfl,iB _ _ _ _,_,rfl⟩
theorem EB(r):∀n,nw r n
 |0=>xY r
 |n+1=>xZ r n (EB r n)
def qh(x:Nat):Nat:=
 if FloatKind.f64.format.order x x !=some .eq then x
 else if FloatKind.f64.format.order x 4652007308841189376==some .gt then 9218868437227405312
 else if FloatKind.f64.format.order x 13875379345695965184==some .lt then 0
 else csq (rV (cop .quo x 4652218415073722368) 14) 10
theorem pG{r j}(h:fb r=fb j):∀n,fb (rV r n)=fb (rV j n)
 |0=>rfl
 |n+1=>by
  unfold rV
  congr 1
  refine ib _ ?_ rfl
  congr 1
  refine ib _ ?_ rfl
  congr 1
  exact ib _ h (pG h n)
theorem vU{c y q k w}(h:fb y=fb (csq c k))(ao:q=fop .mul y y w):fb q=fb (csq c (k+1)):=by
 subst ao;rw[ie];unfold csq;congr 1;exact ib _ h h
theorem IB(x w)(ap:x<18446744073709551616):
  Calls prog 115 #[.float .f64 x] w λe J=>∃y,e=.returned (.float .f64 y)/\fb y=fb (qh x)/\y<18446744073709551616/\∃m,J=w.drewN m:=by
 unfold qh;cases B:(FloatKind.f64.format.order x x !=some .eq)
 ·cases U:(FloatKind.f64.format.order x 4652007308841189376==some .gt)
  ·cases h3:(FloatKind.f64.format.order x 13875379345695965184==some .lt)
   ·simp only[Bool.false_eq_true,if_false];have ao:(binOp .quo 38 (.float .f64 x) (.float .f64 4652218415073722368)).run prog w=.ok (.float .f64 (fop .quo x 4652218415073722368 w)) (w.drewN (fnd .quo x 4652218415073722368)):=kL w 38 _ _;have ae:=ie .quo x 4652218415073722368 w;have h:=pG ae 14;clear ae;generalize fop .quo x 4652218415073722368 w=r at ao h;generalize fnd .quo x 4652218415073722368=aL at ao;generalize rV (cop .quo x 4652218415073722368) 14=c at h⊢;go_enter func115,ntmps115;go_wp2_with fail;refine(gL _ _).mono ?_;rintro e J ⟨rfl,rfl⟩;go_wp2_with fail;refine(EB _ 14 _ _ xaa xaa).mono ?_;rintro e J ⟨y,rfl,bS,aB,m,rfl⟩;have dv:=bS.trans h;clear ao bS h B U h3;have U:=@mT prog;go_wp2_with fail;go_loopw [4,5] (λp i W=>∃k N f,k<=10/\i=hF (k:Nat)/\p=.float .f64 N/\fb N=fb (csq c k)/\N<18446744073709551616/\W=J.drewN f) (λ_ i _=>10-(intOf i).toNat)
    case atStart=>exact⟨0,y,_,by omega,rfl,rfl,dv,aB,rfl⟩
    case round=>
     obtain⟨k,N,f,O,rfl,rfl,a9,ah,rfl⟩:=hrel;by_cases g:k<10
     ·go_wp2;go_roundw;exact⟨k+1,_,_,by omega,by go_num,rfl,vU a9 rfl,iB _ _ _ _,rfl⟩;simp[intOf];omega
     exact xki
   simp only[Bool.false_eq_true,if_false,if_true];exact xgr
  simp only[Bool.false_eq_true,if_false,if_true];have a6:=qe;exact xgr
 simp only[if_true];go_enter func115,ntmps115;go_wp2_with fail;refine(gL _ _).mono ?_;exact xkj
theorem IC(w):Calls prog 132 #[hF 1] w λe J=>e=.returned (.float .f64 9218868437227405312)/\J=w:=by
 have ak:=LU;go_enter func132,ntmps132;go_wp2;go_ret;exact⟨rfl,rfl⟩
theorem ID(x w)(ap:x<18446744073709551616):
  Calls prog 97 #[.float .f64 x] w λe J=>∃y,e=.returned (.float .f64 y)/\fb y=fb (qh x)/\y<18446744073709551616/\∃m,J=w.drewN m:=by
 unfold qh;cases B:(FloatKind.f64.format.order x x !=some .eq)
 ·cases U:(FloatKind.f64.format.order x 4652007308841189376==some .gt)
  ·cases h3:(FloatKind.f64.format.order x 13875379345695965184==some .lt)
   ·simp only[Bool.false_eq_true,if_false];have ae:=ie .quo x 4652218415073722368 w;have h:=pG ae 14;clear ae;generalize rV (cop .quo x 4652218415073722368) 14=c at h⊢;go_enter func97,ntmps97;go_wp2_with fail;refine(oQ _ _).mono ?_;rintro e J ⟨rfl,rfl⟩;go_wp2_with fail;refine(sD _ _ _).mono ?_;rintro e ay ⟨rfl,rfl⟩;clear B U h3;generalize fop .quo x 4652218415073722368 J=r at h⊢;generalize fnd .quo x 4652218415073722368=aL;go_wp2_with fail;go_loopw [4,5] (λp i W=>∃k N f,k<=14/\i=hF (14-(k:Nat))/\p=.float .f64 N/\fb N=fb (rV r k)/\N<18446744073709551616/\W=J.drewN f) (λ_ i _=>(intOf i).toNat)
    case atStart=>exact⟨0,_,_,by omega,rfl,rfl,rfl,by omega,rfl⟩
    case round=>
     obtain⟨k,N,f,O,rfl,rfl,a9,ah,rfl⟩:=hrel;by_cases aB:k<14
     ·go_wp2_with fail;refine(qY _ _ _).mono ?_;rintro e ay ⟨rfl,rfl⟩;go_wp2_with fail;refine(sD _ _ _).mono ?_;rintro e ay ⟨rfl,rfl⟩;go_wp2_with fail;refine(xX _ _ _).mono ?_;rintro e ay ⟨rfl,rfl⟩;go_wp2;go_roundw
      case rel=>first|exact⟨k+1,_,_,by omega,by go_num,rfl,sE (14-(k:Int)) _ _ _ rfl a9 rfl,iB _ _ _ _,rfl⟩|((repeat apply Exists.intro);exact⟨⟨k+1,_,_,by omega,by go_num,rfl,sE (14-(k:Int)) _ _ _ rfl a9 rfl,iB _ _ _ _,rfl⟩,rfl⟩)
      case measure=>simp[intOf];omega
     obtain rfl:k=14:=xaa;have ak:=a9.trans h;clear a9 h;go_wp2_with fail;go_loopw [4,29] (λp i W=>∃k N f,k<=10/\i=hF (k:Nat)/\p=.float .f64 N/\fb N=fb (csq c k)/\N<18446744073709551616/\W=J.drewN f) (λ_ i _=>10-(intOf i).toNat)
     case atStart=>exact⟨0,_,_,by omega,rfl,rfl,ak,ah,rfl⟩
     case round=>
      obtain⟨k,l,j,O,rfl,rfl,a9,ah,rfl⟩:=hrel;by_cases g:k<10
      ·go_wp2_with fail;refine(qY _ _ _).mono ?_;rintro e ay ⟨rfl,rfl⟩;go_wp2;go_roundw
       case rel=>first|exact⟨k+1,_,_,by omega,by go_num,rfl,vU a9 rfl,iB _ _ _ _,rfl⟩|((repeat apply Exists.intro);exact⟨⟨k+1,_,_,by omega,by go_num,rfl,vU a9 rfl,iB _ _ _ _,rfl⟩,rfl⟩)
       case measure=>simp[intOf];omega
      exact xki
   simp only[Bool.false_eq_true,if_false,if_true];go_enter func97,ntmps97;go_wp2_with fail;refine(oQ _ _).mono ?_;exact xfn
  simp only[Bool.false_eq_true,if_false,if_true];go_enter func97,ntmps97;go_wp2_with fail;refine(oQ _ _).mono ?_;rintro e J ⟨rfl,rfl⟩;go_wp2_with fail;refine(IC _).mono ?_;exact xfn
 simp only[if_true];go_enter func97,ntmps97;go_wp2_with fail;refine(oQ _ _).mono ?_;exact xkj
