import Derived.Test.YtbhmhdllnfkjhaaGreatP01
namespace Go.Proofs.Z
open Tryz Go.RowKit Flt
set_option maxRecDepth 1000000
set_option maxHeartbeats 0
section
variable{s:Bool}{x lo y r g hi u au O l X h n:Nat}{w I a b c:World}{xs:List Nat}
theorem Mw(b w):(callFunc 155 #[.float .f64 b]).run prog w=.ok (.value (.int .u64 b)) w:=by
 rw[run_callFunc_extern (e:=Extern.MathFloatBits.float64bits) func155 (by kernel_rfl) (by kernel_rfl) (by kernel_rfl) (by kernel_rfl)];rfl
theorem E7(b w):(callFunc 156 #[.int .u64 b]).run prog w=.ok (.value (.float .f64 b.toNat)) w:=by
 rw[run_callFunc_extern (e:=Extern.MathFloatBits.float64frombits) func156 (by kernel_rfl) (by kernel_rfl) (by kernel_rfl) (by kernel_rfl)];rfl
theorem gK(x w):
  Calls prog 153 #[.float .f64 x] w λe I=>e=.returned (.bool (FloatKind.f64.format.order x x !=some .eq))/\I=w:=by
 go_enter func153,ntmps153;go_wp2;go_ret;exact⟨rfl,rfl⟩
theorem ph(x w):
  Calls prog 136 #[.float .f64 x] w λe I=>e=.returned (.bool (FloatKind.f64.format.order x x !=some .eq))/\I=w:=by
 go_enter func136,ntmps136;go_wp2;go_ret;exact⟨rfl,rfl⟩
theorem wD(x w)(h:(FloatKind.f64.format.order x x !=some .eq)=false):
  Calls prog 133 #[.float .f64 x] w λe I=>e=.returned (.int .u64 x)/\I=w:=by
 have ad:=Mw;exact xjb
theorem wG(x w)(h:(FloatKind.f64.format.order x x !=some .eq)=true):
  Calls prog 133 #[.float .f64 x] w λe I=>e=.returned (.int .u64 9221120237041090560)/\I=w:=by
 exact xjb
theorem mE(h:r<=9218868437227405312):(FloatKind.f64.format.order (W s r) (W s r) !=some .eq)=false:=by
 rw[show FloatKind.f64.format.order (W s r) _=some _ from wz h];rfl
theorem ng(h:9218868437227405312<r)(av:r<9223372036854775808):(FloatKind.f64.format.order (W s r) (W s r) !=some .eq)=true:=by
 rw[show FloatKind.f64.format.order (W s r) _=none from wC h av];rfl
theorem sb(s r w)(h:r<=9218868437227405312):
  Calls prog 162 #[.float .f64 (W s r)] w λe I=>e=.returned (.bool s)/\I=w:=by
 by_cases ae:r=0
 ·subst ae;have B:FloatKind.f64.format.order (W s 0) 0=some .eq:=lC;have J:=λw=>run_float_arith (P:=prog) w .quo 50 .f64 4607182418800017408 (W s 0) (W s 9218868437227405312) mR;have h3:FloatKind.f64.format.order (W s 9218868437227405312) 0=some (if s then .lt else .gt):=oh xaa xaa;exact xht
 have h3:FloatKind.f64.format.order (W s r) 0=some (if s then .lt else .gt):=oh xaa h;exact xht
def fb(x:Nat):Nat:=if FloatKind.f64.format.order x x !=some .eq then 9221120237041090560 else x
theorem s8(x w):
  Calls prog 133 #[.float .f64 x] w λe I=>e=.returned (.int .u64 (fb x:Nat))/\I=w:=by
 unfold fb;cases h:(FloatKind.f64.format.order x x !=some .eq)
 ·exact wD x w h
 exact wG x w h
theorem yo(x y w):
  Calls prog 134 #[.float .f64 x,.float .f64 y] w λe I=>e=.returned (.bool ((fb x:Int)==(fb y:Int)))/\I=w:=by
 go_enter func134,ntmps134;go_wp2_with fail;refine(s8 _ _).mono ?_;rintro e I ⟨rfl,rfl⟩;go_wp2_with fail;refine(s8 _ _).mono ?_;rintro e I ⟨rfl,rfl⟩;go_wp2;go_ret;exact⟨rfl,rfl⟩
theorem om(h:r<=9218868437227405312):fb (W s r)=W s r:=by unfold fb;rw[mE h];rfl
theorem nh(h:9218868437227405312<r)(av:r<9223372036854775808):fb (W s r)=9221120237041090560:=by unfold fb;rw[ng h av];rfl
theorem LT{t q}(av:r<9223372036854775808)(am:q<9223372036854775808):(((W s r:Nat):Int)==((W t q:Nat):Int))=decide (r=q/\s=t):=by
 grind[OL]
theorem qu(av:r<=9218868437227405312):(((W s r:Nat):Int)==9221120237041090560)=false/\((9221120237041090560:Int)==((W s r:Nat):Int))=false:=by
 grind[W]
abbrev f64:Ieee.Format:=FloatKind.f64.format
theorem Aw(d:Ieee.Datum):(d.order d !=some .eq)=d.isNaN:=by
 cases d with
 |number s m i=>simp[Ieee.Datum.order,Ieee.Datum.isNaN]
 |infinity s=>cases s<;>rfl
 |nan s t=>rfl
theorem wH(x):(FloatKind.f64.format.order x x !=some .eq)=(FloatKind.f64.format.read x).isNaN:=Aw _
theorem mS(h:(f64.read x).isNaN=true):fb x=9221120237041090560:=by
 unfold fb;rw[wH,h];rfl
theorem rn(h:(f64.read x).isNaN=false):fb x=x:=by
 unfold fb;rw[wH,h];rfl
theorem OS:(f64.read 9221120237041090560).isNaN=true:=xab
theorem mT(h:fb x=fb y):x=y\/((f64.read x).isNaN=true/\(f64.read y).isNaN=true):=by
 grind[rn,mS,OS]
theorem uX(ak:(f64.read x).isNaN=true)(bX:(f64.read y).isNaN=true):fb x=fb y:=by
 rw[mS ak,mS bX]
theorem l9{d:Ieee.Datum}(h:d.isNaN=true):∃s t,d=.nan s t:=by
 cases d with
 |number s m i=>cases h
 |infinity s=>cases h
 |nan s t=>exact⟨s,t,rfl⟩
theorem kz(h:fb x=fb u)(h':fb y=fb O):f64.order x y=f64.order u O:=by
 rcases mT h with rfl|⟨a,b⟩
 ·rcases mT h' with rfl|⟨c,d⟩
  ·rfl
  exact(nQ (l9 c)).trans (nQ (l9 d)).symm
 exact(mf (l9 a)).trans (mf (l9 b)).symm
theorem kj(op)(h:(f64.read x).isNaN=true):floatBits op .f64 x y=none:=by
 obtain⟨s,t,h⟩:=l9 h;cases op<;>first|rfl|skip
 all_goals
  simp only[floatBits,Ieee.Format.add,Ieee.Format.sub,Ieee.Format.mul,Ieee.Format.div]
  rw[h]
  rfl
theorem lQ(op)(h:(f64.read y).isNaN=true):floatBits op .f64 x y=none:=by
 obtain⟨s,t,h⟩:=l9 h;cases op<;>first|rfl|skip
 all_goals
  simp only[floatBits,Ieee.Format.add,Ieee.Format.sub,Ieee.Format.mul,Ieee.Format.div]
  rw[h]
  cases f64.read x<;>rfl
def cop(op:BinOp)(x y:Nat):Nat:=(floatBits op .f64 x y).getD 9221120237041090560
theorem gl(op)(h:fb x=fb u)(h':fb y=fb O):cop op x y=cop op u O:=by
 unfold cop;rcases mT h with rfl|⟨a,b⟩
 ·rcases mT h' with rfl|⟨c,d⟩
  ·rfl
  rw[lQ _ c,lQ _ d]
 rw[kj _ a,kj _ b]
def fop(op:BinOp)(x y:Nat)(w:World):Nat:=
 (floatBits op .f64 x y).getD (Question.cut (.nanBits .f64 x y) (w.tape w.drawn (.nanBits .f64 x y)))
def fnd(op:BinOp)(x y:Nat):Nat:=if (floatBits op .f64 x y).isSome then 0 else 1
theorem BK(x y t):(f64.read (Question.cut (.nanBits .f64 x y) t)).isNaN=true/\Question.cut (.nanBits .f64 x y) t<18446744073709551616:=by
 simp only[Question.cut];obtain⟨k,N,aC⟩:∃k,(t/2)%(2 ^ 52-1)=k/\k<4503599627370495:=⟨_,rfl,Nat.mod_lt _ xab⟩
 rw[N];rcases Nat.mod_two_eq_zero_or_one t with h|h
 ·rw[h];have e:0*2 ^ 63+9218868437227405312+1+k=W false (9218868437227405312+1+k):=by unfold W;simp
  exact xfu
 rw[h];have e:1*2 ^ 63+9218868437227405312+1+k=W true (9218868437227405312+1+k):=by unfold W;simp;omega
 exact xfu
theorem gu(op x y w):fb (fop op x y w)=fb (cop op x y):=by
 unfold fop cop;cases floatBits op .f64 x y with
 |none=>grind[uX,BK,OS]
 |some r=>rfl
theorem gN(op x y w):fop op x y w<18446744073709551616:=by
 unfold fop;cases h:floatBits op .f64 x y with
 |none=>grind[BK]
 |some r=>
  have:=floatBits_wf h;simpa[Lit.wf] using this
section
variable{P:Program} (w:World)
theorem sH(op)(al:op=.add\/op=.sub\/op=.mul\/op=.quo)(t x y):
  (binOp op t (.float .f64 x) (.float .f64 y)).run P w=.ok (.float .f64 (fop op x y w)) (w.drewN (fnd op x y)):=by
 cases h:floatBits op .f64 x y with
 |some r=>
  have e1:fop op x y w=r:=by unfold fop;rw[h];rfl
  have e2:fnd op x y=0:=by unfold fnd;rw[h];rfl
  rw[e1,e2,World.drewN_zero];exact run_float_arith w _ t _ x y r h
 |none=>
  have e1:fop op x y w=Question.cut (.nanBits .f64 x y) (w.tape w.drawn (.nanBits .f64 x y)):=by unfold fop;rw[h];rfl
  have e2:fnd op x y=1:=by unfold fnd;rw[h];rfl
  rw[e1,e2];unfold floatBits at h;rcases al with rfl|rfl|rfl|rfl
  all_goals
   simp only at h
   simp[binOp,Op.floatArith,h,choose,Sem.run,Question.forced]
   rfl
theorem oq(t x y):(binOp .add t (.float .f64 x) (.float .f64 y)).run P w=.ok (.float .f64 (fop .add x y w)) (w.drewN (fnd .add x y)):=sH w .add xac t x y
theorem yp(t x y):(binOp .sub t (.float .f64 x) (.float .f64 y)).run P w=.ok (.float .f64 (fop .sub x y w)) (w.drewN (fnd .sub x y)):=sH w .sub xac t x y
theorem mg(t x y):(binOp .mul t (.float .f64 x) (.float .f64 y)).run P w=.ok (.float .f64 (fop .mul x y w)) (w.drewN (fnd .mul x y)):=sH w .mul xac t x y
theorem kK(t x y):(binOp .quo t (.float .f64 x) (.float .f64 y)).run P w=.ok (.float .f64 (fop .quo x y w)) (w.drewN (fnd .quo x y)):=sH w .quo xac t x y
end
theorem wI(b w):(convert 50 50 (.float .f64 b)).run prog w=.ok (.float .f64 b) w:=
 run_convert_float_float w 50 50 .f64 .f64 b b (by kernel_rfl) underlying50 (by simp[floatToFloatBits])
theorem wJ(w):(binOp .quo 50 (.float .f64 4607182418800017408) (.float .f64 0)).run prog w=.ok (.float .f64 9218868437227405312) w:=
 run_float_arith (P:=prog) w .quo 50 .f64 4607182418800017408 0 9218868437227405312 xab
theorem eD{P a m}(k b):(store a (.float k b) m).run P w=stored P w a (.float k b) m:=run_store P w a _ m rfl
structure Kept(lo hi:Nat)(w w':World):Prop where
 os:w'.os=w.os
 tape:w'.tape=w.tape
 output:w'.output=w.output
 size:w.heap.size<=w'.heap.size
 block:∀k,k<w.heap.size->¬(lo<=k/\k<hi)->w'.heap[k]? =w.heap[k]?
theorem Kept.refl(lo hi w):Kept lo hi w w:=⟨rfl,rfl,rfl,yad,λ_ _ _=>rfl⟩
theorem hL{w:World}:Kept 0 0 w w:=Kept.refl 0 0 w
theorem Kept.trans(h:Kept lo hi a b)(k:Kept lo hi b c):Kept lo hi a c:=
 ⟨k.os.trans h.os,k.tape.trans h.tape,k.output.trans h.output,yao h.size k.size,λi X hn=>(k.block i (yak X h.size) hn).trans (h.block i X hn)⟩
theorem Kept.mono(h:Kept lo hi w I)(ar:∀k,k<w.heap.size->lo<=k/\k<hi->au<=k/\k<X):Kept au X w I:=
 ⟨h.os,h.tape,h.output,h.size,λk N hn=>h.block k N λc=>hn (ar k N c)⟩
theorem Kept.new{h'}(h:Kept lo hi a b)(k:Kept l h' b c)(ab:a.heap.size<=l):Kept lo hi a c:=
 ⟨k.os.trans h.os,k.tape.trans h.tape,k.output.trans h.output,yao h.size k.size,λi X hn=>(k.block i (yak X h.size) (λc=>by omega)).trans (h.block i X hn)⟩
theorem Kept.below(h:Kept 0 0 w I):Below w.heap.size w I:=⟨h.os,h.tape,h.output,h.size,λk N=>h.block k N xaa⟩
theorem eK(lo hi w m):Kept lo hi w (w.drewN m):=⟨rfl,rfl,rfl,yad,λ_ _ _=>rfl⟩
theorem ez(lo hi w o):Kept lo hi w (w.alloc o):=⟨rfl,rfl,rfl,by simp,λk N _=>Below.heap_alloc w o k N⟩
theorem eP(w a v)(h:lo<=a.block/\a.block<hi\/w.heap.size<=a.block):Kept lo hi w (w.setCell a v):=
 ⟨rfl,rfl,rfl,by simp,λk N hn=>Below.heap_setCell w a v k (λe=>by omega)⟩
theorem Kept.cell(h:Kept lo hi w I){p}(aK:p.block<w.heap.size)(hn:¬(lo<=p.block/\p.block<hi)):I.cell? p=w.cell? p:=World.cell?_of_block (w:=w) (h.block p.block aK hn)
theorem Kept.frozen(h:Kept lo hi w I){p}(aK:p.block<w.heap.size)(hn:¬(lo<=p.block/\p.block<hi)):I.frozen? p=w.frozen? p:=World.frozen?_of_block (w:=w) (h.block p.block aK hn)
def Drawn(w w':World):Prop:=∃m,w'=w.drewN m
theorem Drawn.refl(w):Drawn w w:=⟨0,rfl⟩
theorem Drawn.more(h:Drawn w I)(n):Drawn w (I.drewN n):=by
 obtain⟨m,rfl⟩:=h;exact⟨_,World.drewN_drewN ..⟩
theorem Drawn.trans(h:Drawn a b)(k:Drawn b c):Drawn a c:=by
 obtain⟨m,rfl⟩:=k;exact h.more m
theorem Drawn.cell(h:Drawn w I)(p):I.cell? p=w.cell? p:=by obtain⟨m,rfl⟩:=h;rfl
theorem Drawn.kept(h:Drawn w I)(lo hi):Kept lo hi w I:=by obtain⟨m,rfl⟩:=h;exact eK _ _ w m
structure FS(w:World)(lo hi:Nat)(a:Option Addr)(n:Nat)(xs:List Nat):Prop where
 len:xs.length=n
 lt:∀x∈xs,x<18446744073709551616
 at_:n=0\/∃g off,a=some ⟨g,off,none⟩/\lo<=g/\g<hi/\g<w.heap.size/\∀k,k<n->w.cell? ⟨g,off+k,none⟩=some (.float .f64 (xs.getD k 0))
theorem FS.keep{a}(f:FS w lo hi a n xs)(k:Kept l h w I)(G:hi<=l\/h<=lo\/h<=l):FS I lo hi a n xs:=
 ⟨f.len,f.lt,by
  rcases f.at_ with ae|⟨g,off,e,B,J,h3,a0⟩
  ·exact .inl ae
  ·exact .inr ⟨g,_,e,B,J,yak h3 k.size,λj hj=>by rw[k.cell h3 (by show ¬(l<=g/\g<h);omega)];exact a0 j hj⟩⟩
theorem FS.mono{a}(f:FS w lo hi a n xs)(B:au<=lo)(J:hi<=X):FS w au X a n xs:=
 ⟨f.len,f.lt,by
  rcases f.at_ with ae|⟨g,off,e,a1,Y,a3,a4⟩
  ·exact .inl ae
  ·exact .inr ⟨g,_,e,by omega,by omega,a3,a4⟩⟩
theorem fR(h:∀x∈xs,x<18446744073709551616)(k):xs.getD k 0<18446744073709551616:=by
 rw[yai];by_cases N:k<xs.length
 ·exact xju
 rw[List.getElem?_eq_none xaa];exact(by omega:0<18446744073709551616)
def FR(w:World)(g:Nat)(xs:List Nat):Prop:=w.heap[g]? =some (.cells (xs.map (Value.float .f64)).toArray 50 (0,0))
theorem FR.lt(h:FR w g xs):g<w.heap.size:=by
 unfold FR at h;rcases Nat.lt_or_ge g w.heap.size with c|c
 ·exact c
 rw[Array.getElem?_eq_none c]at h;cases h
theorem FR.cell(h:FR w g xs)(k)(N:k<xs.length):w.cell? ⟨g,k,none⟩=some (.float .f64 (xs.getD k 0)):=by
 rw[cell_of_row w g k _ _ _ h];simp[N,List.getD_eq_getElem?_getD]
theorem FR.free(h:FR w g xs)(k):w.frozen? ⟨g,k,none⟩=false:=frozen_of_row w g k _ _ h
theorem FR.keep(f:FR w g xs)(k:Kept l h w I)(G:g<l\/h<=g\/h<=l):FR I g xs:=by
 unfold FR;rw[k.block g f.lt xaa];exact f
theorem FR.set(h:FR w g xs)(k x):FR (w.setCell ⟨g,k,none⟩ (.float .f64 x)) g (xs.set k x):=by
 unfold FR at h⊢;exact qcw
theorem FR.fs(h:FR w g xs)(ab:∀x∈xs,x<18446744073709551616)(B:lo<=g)(J:g<hi):FS w lo hi (some ⟨g,0,none⟩) xs.length xs:=
 ⟨rfl,ab,.inr ⟨g,0,rfl,B,J,h.lt,λk N=>by rw[Nat.zero_add];exact h.cell k N⟩⟩
theorem FR.made(w:World)(n):FR (w.alloc (.cells (madeCells #[.float .f64 0] n) 50)) w.heap.size (List.replicate n 0):=by
 unfold FR;rw[heap_alloc_new]
 have:(madeCells #[.float .f64 0] n)=(List.map (Value.float .f64) (List.replicate n 0)).toArray:=by
  apply Array.toList_inj.1;rw[toList_madeCells_one];simp
 rw[this]
theorem yq:(prog.info? 50).map (λi=>(i.zero,i.size,i.bytes))=some (some (.float .f64 0),1,8):=by kernel_rfl
end
section
attribute[local go_sem] eG eE eD
variable{n:Int}{bT:List Nat}{lo k hi:Nat}{xs:List Int}{a:Option Addr}
theorem th(n:Nat)(w)(hn:n<=1099511627776):
  (Instr.makeSlice 48 (hD n) (hD n)).run prog w=.ok (hC w.heap.size n n) (w.alloc (.cells (madeCells #[.float .f64 0] n) 50)):=by
 obtain⟨i,hi,a6,b8,b5⟩:=info_parts yq;have:=run_make (P:=prog) w 48 50 i (.float .f64 0) underlying48 hi a6 .i64 .i64 n n xaa xaa (hR b5) xaa;exact qch
def fO(xs ys:List Nat):Prop:=xs.map fb=ys.map fb
theorem iZ{xs}(h:fO xs bT):xs.length=bT.length:=by
 have:=congrArg List.length h;simpa using this
theorem pi{xs}(ab:xs.length=bT.length)(h:∀k,k<xs.length->fb (xs.getD k 0)=fb (bT.getD k 0)):fO xs bT:=by
 unfold fO;apply List.ext_getElem (by simpa using ab);intro i B J;have bM:i<xs.length:=by simpa using B
 have:=h i bM;simp only[List.getElem_map];rw[yai,yai,yam bM,yam (by omega:i<bT.length)]at this;exact this
theorem gD{xs}(h:fO xs bT)(k):fb (xs.getD k 0)=fb (bT.getD k 0):=by
 have:(xs.map fb)[k]? =(bT.map fb)[k]?:=by rw[h]
 rw[List.getElem?_map,List.getElem?_map]at this;rw[yai,yai];cases B:xs[k]?<;>cases J:bT[k]?<;>rw[B,J]at this<;>simp at this
 all_goals first|rfl|exact this
def lenB(n:Int):Bool:=decide (1<=n/\n<=1000)
theorem pl(B:1<=n)(J:n<=1000):lenB n=true:=decide_eq_true ⟨B,J⟩
theorem pV(h:¬(1<=n/\n<=1000)):lenB n=false:=yay h
theorem gF(n w):Calls prog 51 #[hD n] w λe I=>e=.returned (.bool (lenB n))/\I=w:=by
 by_cases B:1<=n
 ·by_cases J:n<=1000
  ·rw[pl B J];exact xgg
  rw[pV (λc=>J c.2)];have t:=yay J;exact xgg
 rw[pV (λc=>B c.1)];have t:=yay B;exact xgg
def cnt(op:Int):Nat:=if op=6\/op=9\/op=10\/op=11\/op=12\/op=13 then 1 else if op=2\/op=3\/op=4\/op=5\/op=7 then 2 else if op=8 then 3 else 0
theorem qw(op:Int):op=1\/op=2\/op=3\/op=4\/op=5\/op=6\/op=7\/op=8\/op=9\/op=10\/op=11\/op=12\/op=13\/(op≠1/\op≠2/\op≠3/\op≠4/\op≠5/\op≠6/\op≠7/\op≠8/\op≠9/\op≠10/\op≠11/\op≠12/\op≠13):=xaa
theorem qx(op w):Calls prog 98 #[hD op] w λe I=>e=.returned (hD (cnt op:Nat))/\I=w:=by
 rcases qw op with rfl|rfl|rfl|rfl|rfl|rfl|rfl|rfl|rfl|rfl|rfl|rfl|rfl|h
 ·exact xjh
 all_goals try
  (go_enter func98,ntmps98
   go_wp2
   go_ret
   exact⟨rfl,rfl⟩)
 obtain⟨B,J,h3,a0,bz,bP,aS,U,bp,u,H,T,S⟩:=h;have e:cnt op=0:=by grind[cnt]
 rw[e];have aY:=yan J;have bW:=yan h3;have b3:=yan a0;have b2:=yan bz;have b5:=yan bP;have Y:=yan aS;have l:=yan U;have i:=yan bp;have c:=yan u;have f:=yan H;have g:=yan T;have j:=yan S;clear e B J h3 a0 bz bP aS U bp u H T S;exact xjh
structure IS(w:World)(lo hi:Nat)(a:Option Addr)(n:Nat)(xs:List Int):Prop where
 len:xs.length=n
 at_:n=0\/∃g off,a=some ⟨g,off,none⟩/\lo<=g/\g<hi/\g<w.heap.size/\∀k,k<n->w.cell? ⟨g,off+k,none⟩=some (.int .i64 (xs.getD k 0))
theorem IS.keep{w I l h n}(f:IS w lo hi a n xs)(k:Kept l h w I)(G:hi<=l\/h<=lo\/h<=l):IS I lo hi a n xs:=
 ⟨f.len,by
  rcases f.at_ with ae|⟨g,off,e,B,J,h3,a0⟩
  ·exact .inl ae
  ·exact .inr ⟨g,_,e,B,J,yak h3 k.size,λj hj=>by rw[k.cell h3 (by grind)];grind⟩⟩
theorem IS.prefix{w n}(f:IS w lo hi a n xs)(m)(aq:m<=n):IS w lo hi a m (xs.take m):=
 ⟨by rw[List.length_take,f.len];omega,by
  rcases f.at_ with ae|⟨g,off,e,a1,Y,a3,a4⟩<;>simp_all<;>grind⟩
theorem E8(N:k<xs.length)(h:(xs.take k).all (· ==n)=true)(t:(xs.getD k 0 !=n)=false):(xs.take (k+1)).all (· ==n)=true:=by
 rw[yau N,List.all_append,h];rw[yai,yam N]at t;simp at t;simp[t]
theorem Jg(N:k<xs.length)(t:(xs.getD k 0 !=n)=true):xs.all (· ==n)=false:=by
 rw[yai,yam N]at t;simp at t;rw[List.all_eq_false];exact⟨xs[k],List.getElem_mem _,by simp[t]⟩
theorem Ax(w g off m cap n)(xs:List Int)(ak:xs.length=m)(aq:m<=1099511627776)
  (ad:∀k,k<m->w.cell? ⟨g,off+k,none⟩=some (hD (xs.getD k 0))):
  Calls prog 132 #[.slice (some ⟨g,off,none⟩) m cap,hD n] w λe I=>e=.returned (.bool (xs.all (· ==n)))/\I=w:=by
 have bc:V (∀k,k<m->w.cell? ⟨g,off+k,none⟩=some (hD (xs.getD k 0))):=ad;have bn:V (xs.length=m):=ak;clear ad ak;go_enter func132,ntmps132;go_wp2_with fail;go_loop [9] (λi=>∃k:Nat,k<=m/\i=hD k/\V ((xs.take k).all (· ==n)=true)) (λi=>m-(intOf i).toNat)
 case atStart=>exact⟨0,yae,rfl,rfl⟩
 case round=>
  obtain⟨k,N,rfl,aU⟩:=hrel;by_cases aC:k<m
  ·have c:=bc.o k aC;cases t:(xs.getD k 0 !=n)
   ·have U:V _:=E8 (hO bn.o aC) aU.o t;generalize xs.getD k 0=x at c t;exact xcx
   have U:V (xs.all (· ==n)=false):=Jg (hO bn.o aC) t;generalize xs.getD k 0=x at c t;go_wp2;go_ret;exact⟨hS U.o,rfl⟩
  obtain rfl:k=m:=xaa
  have U:V (xs.all (· ==n)=true):=by
   exact xik
  clear aU;go_wp2;go_ret;exact⟨hS U.o,rfl⟩
theorem yr(w a cap n):
  Calls prog 132 #[.slice a 0 cap,hD n] w λe I=>e=.returned (.bool true)/\I=w:=by
 go_enter func132,ntmps132;exact xhp
theorem Mx(w lo hi a m cap n xs)(f:IS w lo hi a m xs)(aq:m<=1099511627776):
  Calls prog 132 #[.slice a m cap,hD n] w λe I=>e=.returned (.bool (xs.all (· ==n)))/\I=w:=by
 rcases f.at_ with rfl|⟨g,off,rfl,a1,Y,a3,a4⟩
 ·have:xs=[]:=List.length_eq_zero_iff.1 f.len;subst this;exact yr w a cap n
 exact Ax w g off m cap n xs f.len aq a4
def fJ(i n:Int):Bool:=decide (0<=i/\i<n)
theorem iu(i n w):Calls prog 53 #[hD i,hD n] w λe I=>e=.returned (.bool (fJ i n))/\I=w:=by
 by_cases B:0<=i
 ·by_cases J:i<n
  ·rw[show fJ i n=true from decide_eq_true ⟨B,J⟩];exact xgh
  rw[show fJ i n=false from yay (λc=>J c.2)];have t:=yay J;exact xgh
 rw[show fJ i n=false from yay (λc=>B c.1)];have t:=yay B;exact xgh
abbrev kT(op len A B C:Int)(K:Nat):Value:=.agg #[.int .i64 op,.int .i64 len,.int .i64 A,.int .i64 B,.int .i64 C,.float .f64 K]
abbrev fB(op len A B C:Int)(K:Nat):Obj:=.cells #[.int .i64 op,.int .i64 len,.int .i64 A,.int .i64 B,.int .i64 C,.float .f64 K] 60
def eY(op len C:Int)(xs:List Int):Bool:=
 if op=9 then len==1&&lenB (xs.getD 0 0)
 else if op=10 then xs.getD 0 0==1
 else if op=11 then (len==1&&lenB (xs.getD 0 0))&&fJ C (xs.getD 0 0)
 else if op=12 then xs.getD 0 0==1&&fJ C len
 else if 1<=op/\op<=13 then xs.all (· ==len)
 else false
theorem CS(w op len A R C K lo hi a m cap xs)(f:IS w lo hi a m xs)(aq:m<=3)
  (bD:op=1\/op=2\/op=3\/op=4\/op=5\/op=6\/op=7\/op=8\/op=13):
  Calls prog 84 #[kT op len A R C K,.slice a m cap] w λe I=>e=.returned (.bool (eY op len C xs))/\I=w.alloc (fB op len A R C K):=by
 have p:=f.keep (ez 0 0 w (fB op len A R C K)) yaa;clear f;rcases bD with rfl|rfl|rfl|rfl|rfl|rfl|rfl|rfl|rfl
 all_goals
  rw[show eY _ len C xs=xs.all (· ==len) by simp[eY]]
  go_enter func84,ntmps84
  go_wp2_with fail
  refine(Mx _ _ _ _ _ _ _ _ p xaa).mono ?_
  rintro e I ⟨rfl,rfl⟩
  go_wp2
  go_ret
  exact⟨rfl,rfl⟩
theorem Ay(w op len A R C K a m cap xs)
  (h:op≠1/\op≠2/\op≠3/\op≠4/\op≠5/\op≠6/\op≠7/\op≠8/\op≠9/\op≠10/\op≠11/\op≠12/\op≠13):
  Calls prog 84 #[kT op len A R C K,.slice a m cap] w λe I=>e=.returned (.bool (eY op len C xs))/\I=w.alloc (fB op len A R C K):=by
 obtain⟨B,J,h3,a0,bz,bP,aS,U,bp,u,H,T,S⟩:=h;have e:eY op len C xs=false:=by unfold eY;rw[hF bp,hF u,hF H,hF T,hF xaa]
 rw[e];have aP:(op==1)=false:=yan B;have aY:(op==2)=false:=yan J;have bW:(op==3)=false:=yan h3;have b3:(op==4)=false:=yan a0;have b2:(op==5)=false:=yan bz;have b5:(op==6)=false:=yan bP;have Y:(op==7)=false:=yan aS;have l:(op==8)=false:=yan U;have i:(op==9)=false:=yan bp;have c:(op==10)=false:=yan u;have f:(op==11)=false:=yan H;have g:(op==12)=false:=yan T;have j:(op==13)=false:=yan S;clear e B J h3 a0 bz bP aS U bp u H T S;go_enter func84,ntmps84;go_wp2;go_ret;exact⟨rfl,rfl⟩
theorem CT(w op len A R C x K g off cap)(aR:g<w.heap.size)(ad:w.cell? ⟨g,off,none⟩=some (hD x))
  (bD:op=9\/op=10\/op=11\/op=12):
  Calls prog 84 #[kT op len A R C K,.slice (some ⟨g,off,none⟩) 1 cap] w λe I=>e=.returned (.bool (eY op len C [x]))/\Kept 0 0 w I:=by
 have z:(w.alloc (fB op len A R C K)).cell? ⟨g,off,none⟩=some (hD x):=by rw[World.cell?_alloc_past (hn:=aR)];exact ad
 rcases bD with rfl|rfl|rfl|rfl
 ·
  cases t:(len==1)
  ·rw[show eY 9 len C [x]=false by simp[eY,t]]
   exact xfp
  ·rw[show eY 9 len C [x]=lenB x by simp[eY,t]]
   go_enter func84,ntmps84
   go_wp2_with fail
   refine(gF _ _).mono ?_
   exact xjn
 ·rw[show eY 10 len C [x]=(x==1) by simp[eY]];exact xfp
 ·cases t:(len==1)
  ·rw[show eY 11 len C [x]=false by simp[eY,t]];go_enter func84,ntmps84;go_wp2;go_quiet (fail)
   go_wp2;go_ret;exact⟨rfl,(ez _ _ _ _).trans (eK _ _ _ _)⟩
  cases aY:lenB x
  ·rw[show eY 11 len C [x]=false by simp[eY,aY]];exact xef
  rw[show eY 11 len C [x]=fJ C x by simp[eY,t,aY]];exact xef
 cases t:(x==1)
 ·rw[show eY 12 len C [x]=false by simp[eY,t]];exact xfp
 rw[show eY 12 len C [x]=fJ C len by simp[eY,t]];go_enter func84,ntmps84;go_wp2_with fail;refine(iu _ _ _).mono ?_;exact xjn
theorem f9(op):cnt op<=3:=by
 grind[cnt]
theorem ro(w op len A R C K lo hi a m cap xs)(f:IS w lo hi a m xs)(aq:m=cnt op):
  Calls prog 84 #[kT op len A R C K,.slice a m cap] w λe I=>e=.returned (.bool (eY op len C xs))/\Kept 0 0 w I:=by
 have au:(op=9\/op=10\/op=11\/op=12)->Calls prog 84 #[kT op len A R C K,.slice a m cap] w λe I=>e=.returned (.bool (eY op len C xs))/\Kept 0 0 w I:=by
  intro bD;have aX:m=1:=by rw[aq];rcases bD with rfl|rfl|rfl|rfl<;>rfl
  subst aX;rcases f.at_ with ae|⟨g,off,rfl,a1,Y,a3,a4⟩
  ·omega
  obtain⟨x,rfl⟩:∃x,xs=[x]:=List.length_eq_one_iff.1 f.len;exact CT w op len A R C x K g off cap a3 (a4 0 xaa) bD
 have l:m<=3:=by rw[aq];exact f9 op
 rcases qw op with h|h|h|h|h|h|h|h|h|h|h|h|h|h
 all_goals first
  |exact au xaa
  |exact(CS w op len A R C K lo hi a m cap xs f l xaa).mono λ_ _ h=>⟨h.1,by rw[h.2];exact ez _ _ _ _⟩
  |exact(Ay w op len A R C K a m cap xs h).mono λ_ _ h=>⟨h.1,by rw[h.2];exact ez _ _ _ _⟩
end
section
theorem tr(x y w):Calls prog 104 #[.float .f64 x,.float .f64 y] w λe I=>e=.returned (.float .f64 (fop .quo x y w))/\I=w.drewN (fnd .quo x y):=by
 have B:=@kK prog;have J:=wI;go_enter func104,ntmps104;go_wp2;go_ret;exact⟨rfl,rfl⟩
theorem rp(x y w):Calls prog 103 #[.float .f64 x,.float .f64 y] w λe I=>e=.returned (.float .f64 (fop .mul x y w))/\I=w.drewN (fnd .mul x y):=by
 have B:=@mg prog;have J:=wI;go_enter func103,ntmps103;go_wp2;go_ret;exact⟨rfl,rfl⟩
theorem yt(x y w):Calls prog 101 #[.float .f64 x,.float .f64 y] w λe I=>e=.returned (.float .f64 (fop .add x y w))/\I=w.drewN (fnd .add x y):=by
 have B:=@oq prog;have J:=wI;go_enter func101,ntmps101;go_wp2;go_ret;exact⟨rfl,rfl⟩
def sA(r:Nat):Nat->Nat
 |0=>4607182418800017408
 |n+1=>cop .add (cop .quo (cop .mul r (sA r n)) (floatOfInt .f64 (14-(n:Int)))) 4607182418800017408
def csq(p:Nat):Nat->Nat
 |0=>p
 |n+1=>cop .mul (csq p n) (csq p n)
theorem tu{r p q n:Nat}(k aO ag a7)(N:k=14-(n:Int))(h:fb p=fb (sA r n))
  (am:q=fop .add (fop .quo (fop .mul r p aO) (floatOfInt .f64 k) ag) 4607182418800017408 a7):fb q=fb (sA r (n+1)):=by
 subst N am;rw[gu];unfold sA;congr 1;refine gl _ ?_ rfl;rw[gu];congr 1;refine gl _ ?_ rfl;rw[gu];congr 1;exact gl _ rfl h
def nj(r n:Nat):Prop:=∀(k:Int) (w:World),n<=14->k=15-(n:Int)->
    Calls prog 154 #[.float .f64 r,.int .i64 k] w λe w'=>∃y,e=.returned (.float .f64 y)/\fb y=fb (sA r n)/\y<18446744073709551616/\∃m,w'=w.drewN m
theorem yu(r):nj r 0:=by
 intro k w hn N;have av:(14:Int)<k:=xaa;clear N;go_enter func154,ntmps154;go_wp2;go_ret;exact⟨_,rfl,rfl,by omega,0,rfl⟩
theorem yv(r n)(Q:nj r n):nj r (n+1):=by
 intro k w hn N;have ch:k<=14:=xaa;have b2:1<=k:=xaa;have H:V (k=15-((n+1:Nat):Int)):=N;clear N;have B:=@oq prog;have J:=@mg prog;have h3:=@kK prog;go_enter func154,ntmps154;go_wp2_with fail;refine(Q _ _ xaa (hM H.o)).mono ?_;rintro e I ⟨y,rfl,bX,aC,m,rfl⟩;go_wp2;go_ret;exact⟨_,rfl,tu k _ _ _ (hM H.o) bX rfl,gN _ _ _ _,_,rfl⟩
theorem E9(r):∀n,nj r n
 |0=>yu r
 |n+1=>yv r n (E9 r n)
def sB(x:Nat):Nat:=
 if FloatKind.f64.format.order x x !=some .eq then x
 else if FloatKind.f64.format.order x 4652007308841189376==some .gt then 9218868437227405312
 else if FloatKind.f64.format.order x 13875379345695965184==some .lt then 0
 else csq (sA (cop .quo x 4652218415073722368) 14) 10
theorem pW{r j}(h:fb r=fb j):∀n,fb (sA r n)=fb (sA j n)
 |0=>rfl
 |n+1=>by
  unfold sA
  congr 1
  refine gl _ ?_ rfl
  congr 1
  refine gl _ ?_ rfl
  congr 1
  exact gl _ h (pW h n)
theorem wK{c y q k w}(h:fb y=fb (csq c k))(am:q=fop .mul y y w):fb q=fb (csq c (k+1)):=by
 subst am;rw[gu];unfold csq;congr 1;exact gl _ h h
theorem Jh(x w)(ak:x<18446744073709551616):
  Calls prog 130 #[.float .f64 x] w λe I=>∃y,e=.returned (.float .f64 y)/\fb y=fb (sB x)/\y<18446744073709551616/\∃m,I=w.drewN m:=by
 unfold sB;cases B:(FloatKind.f64.format.order x x !=some .eq)
 ·cases J:(FloatKind.f64.format.order x 4652007308841189376==some .gt)
  ·cases h3:(FloatKind.f64.format.order x 13875379345695965184==some .lt)
   ·simp only[Bool.false_eq_true,if_false];have am:(binOp .quo 50 (.float .f64 x) (.float .f64 4652218415073722368)).run prog w=.ok (.float .f64 (fop .quo x 4652218415073722368 w)) (w.drewN (fnd .quo x 4652218415073722368)):=kK w 50 _ _;have ar:=gu .quo x 4652218415073722368 w;have f:=pW ar 14;clear ar;generalize fop .quo x 4652218415073722368 w=r at am f;generalize fnd .quo x 4652218415073722368=H at am;generalize sA (cop .quo x 4652218415073722368) 14=c at f⊢;go_enter func130,ntmps130;go_wp2_with fail;refine(gK _ _).mono ?_;rintro e I ⟨rfl,rfl⟩;go_wp2_with fail;refine(E9 _ 14 _ _ xaa xaa).mono ?_;rintro e I ⟨y,rfl,bX,aC,m,rfl⟩;have d5:=bX.trans f;clear am bX f B J h3;have J:=@mg prog;go_wp2_with fail;go_loopw [4,5] (λp i W=>∃k O h,k<=10/\i=hD (k:Nat)/\p=.float .f64 O/\fb O=fb (csq c k)/\O<18446744073709551616/\W=I.drewN h) (λ_ i _=>10-(intOf i).toNat)
    case atStart=>exact⟨0,y,_,by omega,rfl,rfl,d5,aC,rfl⟩
    case round=>
     obtain⟨k,O,h,N,rfl,rfl,a9,ab,rfl⟩:=hrel;by_cases g:k<10
     ·go_wp2;go_roundw;exact⟨k+1,_,_,by omega,by go_num,rfl,wK a9 rfl,gN _ _ _ _,rfl⟩;simp[intOf];omega
     exact xjc
   simp only[Bool.false_eq_true,if_false,if_true];exact xfl
  simp only[Bool.false_eq_true,if_false,if_true];have a0:=wJ;exact xfl
 simp only[if_true];go_enter func130,ntmps130;go_wp2_with fail;refine(gK _ _).mono ?_;exact xjd
theorem Ji(w):Calls prog 137 #[hD 1] w λe I=>e=.returned (.float .f64 9218868437227405312)/\I=w:=by
 have ad:=E7;go_enter func137,ntmps137;go_wp2;go_ret;exact⟨rfl,rfl⟩
theorem Jj(x w)(ak:x<18446744073709551616):
  Calls prog 112 #[.float .f64 x] w λe I=>∃y,e=.returned (.float .f64 y)/\fb y=fb (sB x)/\y<18446744073709551616/\∃m,I=w.drewN m:=by
 unfold sB;cases B:(FloatKind.f64.format.order x x !=some .eq)
 ·cases J:(FloatKind.f64.format.order x 4652007308841189376==some .gt)
  ·cases h3:(FloatKind.f64.format.order x 13875379345695965184==some .lt)
   ·simp only[Bool.false_eq_true,if_false];have ar:=gu .quo x 4652218415073722368 w;have f:=pW ar 14;clear ar;generalize sA (cop .quo x 4652218415073722368) 14=c at f⊢;go_enter func112,ntmps112;go_wp2_with fail;refine(ph _ _).mono ?_;rintro e I ⟨rfl,rfl⟩;go_wp2_with fail;refine(tr _ _ _).mono ?_;rintro e az ⟨rfl,rfl⟩;clear B J h3;generalize fop .quo x 4652218415073722368 I=r at f⊢;generalize fnd .quo x 4652218415073722368=H;go_wp2_with fail;go_loopw [4,5] (λp i W=>∃k O h,k<=14/\i=hD (14-(k:Nat))/\p=.float .f64 O/\fb O=fb (sA r k)/\O<18446744073709551616/\W=I.drewN h) (λ_ i _=>(intOf i).toNat)
    case atStart=>exact⟨0,_,_,by omega,rfl,rfl,rfl,by omega,rfl⟩
    case round=>
     obtain⟨k,O,h,N,rfl,rfl,a9,ab,rfl⟩:=hrel;by_cases aC:k<14
     ·go_wp2_with fail;refine(rp _ _ _).mono ?_;rintro e az ⟨rfl,rfl⟩;go_wp2_with fail;refine(tr _ _ _).mono ?_;rintro e az ⟨rfl,rfl⟩;go_wp2_with fail;refine(yt _ _ _).mono ?_;rintro e az ⟨rfl,rfl⟩;go_wp2;go_roundw
      case rel=>first|exact⟨k+1,_,_,by omega,by go_num,rfl,tu (14-(k:Int)) _ _ _ rfl a9 rfl,gN _ _ _ _,rfl⟩|((repeat apply Exists.intro);exact⟨⟨k+1,_,_,by omega,by go_num,rfl,tu (14-(k:Int)) _ _ _ rfl a9 rfl,gN _ _ _ _,rfl⟩,rfl⟩)
      case measure=>simp[intOf];omega
     obtain rfl:k=14:=xaa;have ad:=a9.trans f;clear a9 f;go_wp2_with fail;go_loopw [4,29] (λp i W=>∃k O h,k<=10/\i=hD (k:Nat)/\p=.float .f64 O/\fb O=fb (csq c k)/\O<18446744073709551616/\W=I.drewN h) (λ_ i _=>10-(intOf i).toNat)
     case atStart=>exact⟨0,_,_,by omega,rfl,rfl,ad,ab,rfl⟩
     case round=>
      obtain⟨k,l,j,N,rfl,rfl,a9,ab,rfl⟩:=hrel;by_cases g:k<10
      ·go_wp2_with fail;refine(rp _ _ _).mono ?_;rintro e az ⟨rfl,rfl⟩;go_wp2;go_roundw
       case rel=>first|exact⟨k+1,_,_,by omega,by go_num,rfl,wK a9 rfl,gN _ _ _ _,rfl⟩|((repeat apply Exists.intro);exact⟨⟨k+1,_,_,by omega,by go_num,rfl,wK a9 rfl,gN _ _ _ _,rfl⟩,rfl⟩)
       case measure=>simp[intOf];omega
      exact xjc
   simp only[Bool.false_eq_true,if_false,if_true];go_enter func112,ntmps112;go_wp2_with fail;refine(ph _ _).mono ?_;exact xeg
  simp only[Bool.false_eq_true,if_false,if_true];go_enter func112,ntmps112;go_wp2_with fail;refine(ph _ _).mono ?_;rintro e I ⟨rfl,rfl⟩;go_wp2_with fail;refine(Ji _).mono ?_;exact xeg
 simp only[if_true];go_enter func112,ntmps112;go_wp2_with fail;refine(ph _ _).mono ?_;exact xjd
