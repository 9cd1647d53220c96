import Derived.Test.YtcjhlkdleojbjaaGreatP01
namespace Go.Proofs.Z
open Tryz Go.RowKit Flt
set_option maxRecDepth 1000000
set_option maxHeartbeats 0
section
variable{s:Bool}{x lo y r g hi H lo' R l hi' h n:Nat}{w B a b c:World}{xs:List Nat}
theorem Ni(b w):(callFunc 181 #[.int .u64 b]).run prog w=.ok (.value (.float .f64 b.toNat)) w:=by
 rw[run_callFunc_extern (e:=Extern.MathFloatBits.float64frombits) func181 (by kernel_rfl) (by kernel_rfl) (by kernel_rfl) (by kernel_rfl)];rfl
theorem oL(x w):
  Calls prog 128 #[.float .f64 x] w λe B=>e=.returned (.bool (FloatKind.f64.format.order x x !=some .eq))/\B=w:=by
 go_enter func128,ntmps128;go_wp2;go_ret;exact⟨rfl,rfl⟩
theorem oM(x w):
  Calls prog 179 #[.float .f64 x] w λe B=>e=.returned (.bool (FloatKind.f64.format.order x x !=some .eq))/\B=w:=by
 go_enter func179,ntmps179;go_wp2;go_ret;exact⟨rfl,rfl⟩
theorem pU(h:r<=9218868437227405312):(FloatKind.f64.format.order (W s r) (W s r) !=some .eq)=false:=by
 rw[show FloatKind.f64.format.order (W s r) _=some _ from wi h];rfl
theorem si(h:9218868437227405312<r)(aD:r<9223372036854775808):(FloatKind.f64.format.order (W s r) (W s r) !=some .eq)=true:=by
 rw[show FloatKind.f64.format.order (W s r) _=none from wj h aD];rfl
def fb(x:Nat):Nat:=if FloatKind.f64.format.order x x !=some .eq then 9221120237041090560 else x
theorem wk(h:r<=9218868437227405312):fb (W s r)=W s r:=by unfold fb;rw[pU h];rfl
theorem wm(h:9218868437227405312<r)(aD:r<9223372036854775808):fb (W s r)=9221120237041090560:=by unfold fb;rw[si h aD];rfl
theorem Pi{t q}(aD:r<9223372036854775808)(ap:q<9223372036854775808):(((W s r:Nat):Int)==((W t q:Nat):Int))=decide (r=q/\s=t):=by
 grind[Pg]
theorem yv(aD:r<=9218868437227405312):(((W s r:Nat):Int)==9221120237041090560)=false/\((9221120237041090560:Int)==((W s r:Nat):Int))=false:=by
 grind[W]
abbrev f64:Ieee.Format:=FloatKind.f64.format
theorem AK(d:Ieee.Datum):(d.order d !=some .eq)=d.isNaN:=by
 cases d with
 |number s m i=>simp[Ieee.Datum.order,Ieee.Datum.isNaN]
 |infinity s=>cases s<;>rfl
 |nan s t=>rfl
theorem wn(x):(FloatKind.f64.format.order x x !=some .eq)=(FloatKind.f64.format.read x).isNaN:=AK _
theorem qQ(h:(f64.read x).isNaN=true):fb x=9221120237041090560:=by
 unfold fb;rw[wn,h];rfl
theorem Da(h:(f64.read x).isNaN=false):fb x=x:=by
 unfold fb;rw[wn,h];rfl
theorem Pj:(f64.read 9221120237041090560).isNaN=true:=xab
theorem mC(h:fb x=fb y):x=y\/((f64.read x).isNaN=true/\(f64.read y).isNaN=true):=by
 grind[Da,qQ,Pj]
theorem uU(an:(f64.read x).isNaN=true)(bN:(f64.read y).isNaN=true):fb x=fb y:=by
 rw[qQ an,qQ bN]
theorem lE{d:Ieee.Datum}(h:d.isNaN=true):∃s t,d=.nan s t:=by
 cases d with
 |number s m i=>cases h
 |infinity s=>cases h
 |nan s t=>exact⟨s,t,rfl⟩
theorem jR(h:fb x=fb H)(h':fb y=fb R):f64.order x y=f64.order H R:=by
 rcases mC h with rfl|⟨a,b⟩
 ·rcases mC h' with rfl|⟨c,d⟩
  ·rfl
  exact(nh (lE c)).trans (nh (lE d)).symm
 exact(lK (lE a)).trans (lK (lE b)).symm
theorem lL(op)(h:(f64.read x).isNaN=true):floatBits op .f64 x y=none:=by
 obtain⟨s,t,h⟩:=lE h;cases op<;>first|rfl|skip
 all_goals
  simp only[floatBits,Ieee.Format.add,Ieee.Format.sub,Ieee.Format.mul,Ieee.Format.div]
  rw[h]
  rfl
theorem lu(op)(h:(f64.read y).isNaN=true):floatBits op .f64 x y=none:=by
 obtain⟨s,t,h⟩:=lE h;cases op<;>first|rfl|skip
 all_goals
  simp only[floatBits,Ieee.Format.add,Ieee.Format.sub,Ieee.Format.mul,Ieee.Format.div]
  rw[h]
  cases f64.read x<;>rfl
def cop(op:BinOp)(x y:Nat):Nat:=(floatBits op .f64 x y).getD 9221120237041090560
theorem gG(op)(h:fb x=fb H)(h':fb y=fb R):cop op x y=cop op H R:=by
 unfold cop;rcases mC h with rfl|⟨a,b⟩
 ·rcases mC h' with rfl|⟨c,d⟩
  ·rfl
  rw[lu _ c,lu _ d]
 rw[lL _ a,lL _ b]
def fop(op:BinOp)(x y:Nat)(w:World):Nat:=
 (floatBits op .f64 x y).getD (Question.cut (.nanBits .f64 x y) (w.tape w.drawn (.nanBits .f64 x y)))
def fnd(op:BinOp)(x y:Nat):Nat:=if (floatBits op .f64 x y).isSome then 0 else 1
theorem B4(x y t):(f64.read (Question.cut (.nanBits .f64 x y) t)).isNaN=true/\Question.cut (.nanBits .f64 x y) t<18446744073709551616:=by
 simp only[Question.cut];obtain⟨k,O,aG⟩:∃k,(t/2)%(2 ^ 52-1)=k/\k<4503599627370495:=⟨_,rfl,Nat.mod_lt _ xab⟩
 rw[O];rcases Nat.mod_two_eq_zero_or_one t with h|h
 ·rw[h];have e:0*2 ^ 63+9218868437227405312+1+k=W false (9218868437227405312+1+k):=by unfold W;simp
  exact xfl
 rw[h];have e:1*2 ^ 63+9218868437227405312+1+k=W true (9218868437227405312+1+k):=by unfold W;simp;omega
 exact xfl
theorem gl(op x y w):fb (fop op x y w)=fb (cop op x y):=by
 unfold fop cop;cases floatBits op .f64 x y with
 |none=>grind[uU,B4,Pj]
 |some r=>rfl
theorem gJ(op x y w):fop op x y w<18446744073709551616:=by
 unfold fop;cases h:floatBits op .f64 x y with
 |none=>grind[B4]
 |some r=>
  have:=floatBits_wf h;simpa[Lit.wf] using this
section
variable{P:Program} (w:World)
theorem sj(op)(ho:op=.add\/op=.sub\/op=.mul\/op=.quo)(t x y):
  (binOp op t (.float .f64 x) (.float .f64 y)).run P w=.ok (.float .f64 (fop op x y w)) (w.drewN (fnd op x y)):=by
 cases h:floatBits op .f64 x y with
 |some r=>
  have ae:fop op x y w=r:=by unfold fop;rw[h];rfl
  have a9:fnd op x y=0:=by unfold fnd;rw[h];rfl
  rw[ae,a9,World.drewN_zero];exact run_float_arith w _ t _ x y r h
 |none=>
  have ae:fop op x y w=Question.cut (.nanBits .f64 x y) (w.tape w.drawn (.nanBits .f64 x y)):=by unfold fop;rw[h];rfl
  have a9:fnd op x y=1:=by unfold fnd;rw[h];rfl
  rw[ae,a9];unfold floatBits at h;rcases ho with rfl|rfl|rfl|rfl
  all_goals
   simp only at h
   simp[binOp,Op.floatArith,h,choose,Sem.run,Question.forced]
   rfl
theorem nQ(t x y):(binOp .add t (.float .f64 x) (.float .f64 y)).run P w=.ok (.float .f64 (fop .add x y w)) (w.drewN (fnd .add x y)):=sj w .add xac t x y
theorem yw(t x y):(binOp .sub t (.float .f64 x) (.float .f64 y)).run P w=.ok (.float .f64 (fop .sub x y w)) (w.drewN (fnd .sub x y)):=sj w .sub xac t x y
theorem lM(t x y):(binOp .mul t (.float .f64 x) (.float .f64 y)).run P w=.ok (.float .f64 (fop .mul x y w)) (w.drewN (fnd .mul x y)):=sj w .mul xac t x y
theorem jX(t x y):(binOp .quo t (.float .f64 x) (.float .f64 y)).run P w=.ok (.float .f64 (fop .quo x y w)) (w.drewN (fnd .quo x y)):=sj w .quo xac t x y
end
theorem wo(b w):(convert 57 57 (.float .f64 b)).run prog w=.ok (.float .f64 b) w:=
 run_convert_float_float w 57 57 .f64 .f64 b b (by kernel_rfl) underlying57 (by simp[floatToFloatBits])
theorem wu(w):(binOp .quo 57 (.float .f64 4607182418800017408) (.float .f64 0)).run prog w=.ok (.float .f64 9218868437227405312) w:=
 run_float_arith (P:=prog) w .quo 57 .f64 4607182418800017408 0 9218868437227405312 xab
theorem eD{P a m}(k b):(store a (.float k b) m).run P w=stored P w a (.float k b) m:=run_store P w a _ m rfl
structure Kept(lo hi:Nat)(w w':World):Prop where
 os:w'.os=w.os
 tape:w'.tape=w.tape
 output:w'.output=w.output
 size:w.heap.size<=w'.heap.size
 block:∀k,k<w.heap.size->¬(lo<=k/\k<hi)->w'.heap[k]? =w.heap[k]?
theorem Kept.refl(lo hi w):Kept lo hi w w:=⟨rfl,rfl,rfl,yad,λ_ _ _=>rfl⟩
theorem hI{w:World}:Kept 0 0 w w:=Kept.refl 0 0 w
theorem Kept.trans(h:Kept lo hi a b)(k:Kept lo hi b c):Kept lo hi a c:=
 ⟨k.os.trans h.os,k.tape.trans h.tape,k.output.trans h.output,yao h.size k.size,λi hi' ad=>(k.block i (yak hi' h.size) ad).trans (h.block i hi' ad)⟩
theorem Kept.mono(h:Kept lo hi w B)(au:∀k,k<w.heap.size->lo<=k/\k<hi->lo'<=k/\k<hi'):Kept lo' hi' w B:=
 ⟨h.os,h.tape,h.output,h.size,λk O ad=>h.block k O λc=>ad (au k O c)⟩
theorem Kept.new{h'}(h:Kept lo hi a b)(k:Kept l h' b c)(af:a.heap.size<=l):Kept lo hi a c:=
 ⟨k.os.trans h.os,k.tape.trans h.tape,k.output.trans h.output,yao h.size k.size,λi hi' ad=>(k.block i (yak hi' h.size) (λc=>by omega)).trans (h.block i hi' ad)⟩
theorem Kept.below(h:Kept 0 0 w B):Below w.heap.size w B:=⟨h.os,h.tape,h.output,h.size,λk O=>h.block k O xaa⟩
theorem eJ(lo hi w m):Kept lo hi w (w.drewN m):=⟨rfl,rfl,rfl,yad,λ_ _ _=>rfl⟩
theorem ez(lo hi w o):Kept lo hi w (w.alloc o):=⟨rfl,rfl,rfl,by simp,λk O _=>Below.heap_alloc w o k O⟩
theorem eR(w a v)(h:lo<=a.block/\a.block<hi\/w.heap.size<=a.block):Kept lo hi w (w.setCell a v):=
 ⟨rfl,rfl,rfl,by simp,λk O ad=>Below.heap_setCell w a v k (λe=>by omega)⟩
theorem Kept.cell(h:Kept lo hi w B){p}(aM:p.block<w.heap.size)(ad:¬(lo<=p.block/\p.block<hi)):B.cell? p=w.cell? p:=World.cell?_of_block (w:=w) (h.block p.block aM ad)
theorem Kept.frozen(h:Kept lo hi w B){p}(aM:p.block<w.heap.size)(ad:¬(lo<=p.block/\p.block<hi)):B.frozen? p=w.frozen? p:=World.frozen?_of_block (w:=w) (h.block p.block aM ad)
def Drawn(w w':World):Prop:=∃m,w'=w.drewN m
theorem Drawn.refl(w):Drawn w w:=⟨0,rfl⟩
theorem Drawn.more(h:Drawn w B)(n):Drawn w (B.drewN n):=by
 obtain⟨m,rfl⟩:=h;exact⟨_,World.drewN_drewN ..⟩
theorem Drawn.trans(h:Drawn a b)(k:Drawn b c):Drawn a c:=by
 obtain⟨m,rfl⟩:=k;exact h.more m
theorem Drawn.cell(h:Drawn w B)(p):B.cell? p=w.cell? p:=by obtain⟨m,rfl⟩:=h;rfl
theorem Drawn.kept(h:Drawn w B)(lo hi):Kept lo hi w B:=by obtain⟨m,rfl⟩:=h;exact eJ _ _ w m
structure FS(w:World)(lo hi:Nat)(a:Option Addr)(n:Nat)(xs:List Nat):Prop where
 len:xs.length=n
 lt:∀x∈xs,x<18446744073709551616
 at_:n=0\/∃g off,a=some ⟨g,off,none⟩/\lo<=g/\g<hi/\g<w.heap.size/\∀k,k<n->w.cell? ⟨g,off+k,none⟩=some (.float .f64 (xs.getD k 0))
theorem FS.keep{a}(f:FS w lo hi a n xs)(k:Kept l h w B)(aK:hi<=l\/h<=lo\/h<=l):FS B lo hi a n xs:=
 ⟨f.len,f.lt,by
  rcases f.at_ with al|⟨g,off,e,F,N,h3,a6⟩
  ·exact .inl al
  ·exact .inr ⟨g,_,e,F,N,yak h3 k.size,λj hj=>by rw[k.cell h3 (by show ¬(l<=g/\g<h);omega)];exact a6 j hj⟩⟩
theorem FS.mono{a}(f:FS w lo hi a n xs)(F:lo'<=lo)(N:hi<=hi'):FS w lo' hi' a n xs:=
 ⟨f.len,f.lt,by
  rcases f.at_ with al|⟨g,off,e,a1,U,a3,a4⟩
  ·exact .inl al
  ·exact .inr ⟨g,_,e,by omega,by omega,a3,a4⟩⟩
theorem gI(h:∀x∈xs,x<18446744073709551616)(k):xs.getD k 0<18446744073709551616:=by
 rw[yai];by_cases O:k<xs.length
 ·exact xiz
 rw[List.getElem?_eq_none xaa];exact(by omega:0<18446744073709551616)
def FR(w:World)(g:Nat)(xs:List Nat):Prop:=w.heap[g]? =some (.cells (xs.map (Value.float .f64)).toArray 57 (0,0))
theorem FR.lt(h:FR w g xs):g<w.heap.size:=by
 unfold FR at h;rcases Nat.lt_or_ge g w.heap.size with c|c
 ·exact c
 rw[Array.getElem?_eq_none c]at h;cases h
theorem FR.cell(h:FR w g xs)(k)(O:k<xs.length):w.cell? ⟨g,k,none⟩=some (.float .f64 (xs.getD k 0)):=by
 rw[cell_of_row w g k _ _ _ h];simp[O,List.getD_eq_getElem?_getD]
theorem FR.free(h:FR w g xs)(k):w.frozen? ⟨g,k,none⟩=false:=frozen_of_row w g k _ _ h
theorem FR.keep(f:FR w g xs)(k:Kept l h w B)(aK:g<l\/h<=g\/h<=l):FR B g xs:=by
 unfold FR;rw[k.block g f.lt xaa];exact f
theorem FR.set(h:FR w g xs)(k x):FR (w.setCell ⟨g,k,none⟩ (.float .f64 x)) g (xs.set k x):=by
 unfold FR at h⊢;exact qcw
theorem FR.fs(h:FR w g xs)(af:∀x∈xs,x<18446744073709551616)(F:lo<=g)(N:g<hi):FS w lo hi (some ⟨g,0,none⟩) xs.length xs:=
 ⟨rfl,af,.inr ⟨g,0,rfl,F,N,h.lt,λk O=>by rw[Nat.zero_add];exact h.cell k O⟩⟩
theorem FR.made(w:World)(n):FR (w.alloc (.cells (madeCells #[.float .f64 0] n) 57)) w.heap.size (List.replicate n 0):=by
 unfold FR;rw[heap_alloc_new]
 have:(madeCells #[.float .f64 0] n)=(List.map (Value.float .f64) (List.replicate n 0)).toArray:=by
  apply Array.toList_inj.1;rw[toList_madeCells_one];simp
 rw[this]
theorem yx:(prog.info? 57).map (λi=>(i.zero,i.size,i.bytes))=some (some (.float .f64 0),1,8):=by kernel_rfl
end
section
attribute[local go_sem] eF eE eD
variable{w B:World}{bJ:List Nat}{lo g hi o l n h:Nat}{xs:List Int}
theorem qR(n:Nat)(w)(ad:n<=1099511627776):
  (Instr.makeSlice 55 (hA n) (hA n)).run prog w=.ok (hz w.heap.size n n) (w.alloc (.cells (madeCells #[.float .f64 0] n) 57)):=by
 obtain⟨i,hi,b4,b3,b0⟩:=info_parts yx;have:=run_make (P:=prog) w 55 57 i (.float .f64 0) underlying55 hi b4 .i64 .i64 n n xaa xaa (hN b0) xaa;exact qbr
def gC(xs ys:List Nat):Prop:=xs.map fb=ys.map fb
theorem i7{xs}(h:gC xs bJ):xs.length=bJ.length:=by
 have:=congrArg List.length h;simpa using this
theorem so{xs}(af:xs.length=bJ.length)(h:∀k,k<xs.length->fb (xs.getD k 0)=fb (bJ.getD k 0)):gC xs bJ:=by
 unfold gC;apply List.ext_getElem (by simpa using af);intro i F N;have bb:i<xs.length:=by simpa using F
 have:=h i bb;simp only[List.getElem_map];rw[yai,yai,yam bb,yam (by omega:i<bJ.length)]at this;exact this
theorem gQ{xs}(h:gC xs bJ)(k):fb (xs.getD k 0)=fb (bJ.getD k 0):=by
 have:(xs.map fb)[k]? =(bJ.map fb)[k]?:=by rw[h]
 rw[List.getElem?_map,List.getElem?_map]at this;rw[yai,yai];cases F:xs[k]?<;>cases N:bJ[k]?<;>rw[F,N]at this<;>simp at this
 all_goals first|rfl|exact this
def lenB(n:Int):Bool:=decide (1<=n/\n<=1000)
theorem mD{n}(F:1<=n)(N:n<=1000):lenB n=true:=decide_eq_true ⟨F,N⟩
theorem pB{n}(h:¬(1<=n/\n<=1000)):lenB n=false:=yay h
theorem fD(n w):Calls prog 34 #[hA n] w λe B=>e=.returned (.bool (lenB n))/\B=w:=by
 by_cases F:1<=n
 ·by_cases N:n<=1000
  ·rw[mD F N];exact xfu
  rw[pB (λc=>N c.2)];have t:=yay N;exact xfu
 rw[pB (λc=>F c.1)];have t:=yay F;exact xfu
def cnt(op:Int):Nat:=if op=6\/op=9\/op=10\/op=11\/op=12\/op=13 then 1 else if op=2\/op=3\/op=4\/op=5\/op=7 then 2 else if op=8 then 3 else 0
theorem pV(op:Int):op=1\/op=2\/op=3\/op=4\/op=5\/op=6\/op=7\/op=8\/op=9\/op=10\/op=11\/op=12\/op=13\/(op≠1/\op≠2/\op≠3/\op≠4/\op≠5/\op≠6/\op≠7/\op≠8/\op≠9/\op≠10/\op≠11/\op≠12/\op≠13):=xaa
theorem mU(op w):Calls prog 62 #[hA op] w λe B=>e=.returned (hA (cnt op:Nat))/\B=w:=by
 rcases pV op with rfl|rfl|rfl|rfl|rfl|rfl|rfl|rfl|rfl|rfl|rfl|rfl|rfl|h
 ·exact xim
 all_goals try
  (go_enter func62,ntmps62
   go_wp2
   go_ret
   exact⟨rfl,rfl⟩)
 obtain⟨F,N,h3,a6,bF,bp,aj,ax,aP,u,y,H,I⟩:=h;have e:cnt op=0:=by grind[cnt]
 rw[e];have bb:=yan N;have co:=yan h3;have cg:=yan a6;have ag:=yan bF;have R:=yan bp;have cc:=yan aj;have p:=yan ax;have r:=yan aP;have f:=yan u;have i:=yan y;have q:=yan H;have j:=yan I;clear e F N h3 a6 bF bp aj ax aP u y H I;exact xim
structure IS(w:World)(lo hi:Nat)(a:Option Addr)(n:Nat)(xs:List Int):Prop where
 len:xs.length=n
 at_:n=0\/∃g off,a=some ⟨g,off,none⟩/\lo<=g/\g<hi/\g<w.heap.size/\∀k,k<n->w.cell? ⟨g,off+k,none⟩=some (.int .i64 (xs.getD k 0))
theorem IS.keep{a}(f:IS w lo hi a n xs)(k:Kept l h w B)(aK:hi<=l\/h<=lo\/h<=l):IS B lo hi a n xs:=
 ⟨f.len,by
  rcases f.at_ with al|⟨g,off,e,F,N,h3,a6⟩
  ·exact .inl al
  ·exact .inr ⟨g,_,e,F,N,yak h3 k.size,λj hj=>by rw[k.cell h3 (by grind)];grind⟩⟩
theorem IS.prefix{a}(f:IS w lo hi a n xs)(m)(am:m<=n):IS w lo hi a m (xs.take m):=
 ⟨by rw[List.length_take,f.len];omega,by
  rcases f.at_ with al|⟨g,off,e,a1,U,a3,a4⟩<;>simp_all<;>grind⟩
theorem Fy{n k}(O:k<xs.length)(h:(xs.take k).all (· ==n)=true)(t:(xs.getD k 0 !=n)=false):(xs.take (k+1)).all (· ==n)=true:=by
 rw[yau O,List.all_append,h];rw[yai,yam O]at t;simp at t;simp[t]
theorem JL{n k}(O:k<xs.length)(t:(xs.getD k 0 !=n)=true):xs.all (· ==n)=false:=by
 rw[yai,yam O]at t;simp at t;rw[List.all_eq_false];exact⟨xs[k],List.getElem_mem _,by simp[t]⟩
theorem AL(w g off m cap n)(xs:List Int)(an:xs.length=m)(am:m<=1099511627776)
  (ah:∀k,k<m->w.cell? ⟨g,off+k,none⟩=some (hA (xs.getD k 0))):
  Calls prog 94 #[.slice (some ⟨g,off,none⟩) m cap,hA n] w λe B=>e=.returned (.bool (xs.all (· ==n)))/\B=w:=by
 have HC:E (∀k,k<m->w.cell? ⟨g,off+k,none⟩=some (hA (xs.getD k 0))):=ah;have ar:E (xs.length=m):=an;clear ah an;go_enter func94,ntmps94;go_wp2_with fail;go_loop [9] (λi=>∃k:Nat,k<=m/\i=hA k/\E ((xs.take k).all (· ==n)=true)) (λi=>m-(intOf i).toNat)
 case atStart=>exact⟨0,yae,rfl,rfl⟩
 case round=>
  obtain⟨k,O,rfl,a2⟩:=hrel;by_cases aG:k<m
  ·have c:=HC.o k aG;cases t:(xs.getD k 0 !=n)
   ·have H:E _:=Fy (hL ar.o aG) a2.o t;generalize xs.getD k 0=x at c t;exact xcg
   have H:E (xs.all (· ==n)=false):=JL (hL ar.o aG) t;generalize xs.getD k 0=x at c t;go_wp2;go_ret;exact⟨hO H.o,rfl⟩
  obtain rfl:k=m:=xaa
  have H:E (xs.all (· ==n)=true):=by
   have:=a2.o;rw[yap (hN ar.o)]at this;exact this
  clear a2;go_wp2;go_ret;exact⟨hO H.o,rfl⟩
theorem yy(w a cap n):
  Calls prog 94 #[.slice a 0 cap,hA n] w λe B=>e=.returned (.bool true)/\B=w:=by
 go_enter func94,ntmps94;go_wp2_with fail;refine wp_loop_rounds 1 ?_;rw[rounds_succ];go_wp2;go_ret;exact⟨rfl,rfl⟩
theorem Nj(w lo hi a m cap n xs)(f:IS w lo hi a m xs)(am:m<=1099511627776):
  Calls prog 94 #[.slice a m cap,hA n] w λe B=>e=.returned (.bool (xs.all (· ==n)))/\B=w:=by
 rcases f.at_ with rfl|⟨g,off,rfl,a1,U,a3,a4⟩
 ·have:xs=[]:=List.length_eq_zero_iff.1 f.len;subst this;exact yy w a cap n
 exact AL w g off m cap n xs f.len am a4
def fR(i n:Int):Bool:=decide (0<=i/\i<n)
theorem hY(i n w):Calls prog 56 #[hA i,hA n] w λe B=>e=.returned (.bool (fR i n))/\B=w:=by
 by_cases F:0<=i
 ·by_cases N:i<n
  ·rw[show fR i n=true from decide_eq_true ⟨F,N⟩];exact xfv
  rw[show fR i n=false from yay (λc=>N c.2)];have t:=yay N;exact xfv
 rw[show fR i n=false from yay (λc=>F c.1)];have t:=yay F;exact xfv
abbrev lN(op len A B C:Int)(K:Nat):Value:=.agg #[.int .i64 op,.int .i64 len,.int .i64 A,.int .i64 B,.int .i64 C,.float .f64 K]
abbrev fH(op len A B C:Int)(K:Nat):Obj:=.cells #[.int .i64 op,.int .i64 len,.int .i64 A,.int .i64 B,.int .i64 C,.float .f64 K] 62
def eV(op len C:Int)(xs:List Int):Bool:=
 if op=9 then len==1&&lenB (xs.getD 0 0)
 else if op=10 then xs.getD 0 0==1
 else if op=11 then (len==1&&lenB (xs.getD 0 0))&&fR C (xs.getD 0 0)
 else if op=12 then xs.getD 0 0==1&&fR C len
 else if 1<=op/\op<=13 then xs.all (· ==len)
 else false
theorem Db(w op len A J C K lo hi a m cap xs)(f:IS w lo hi a m xs)(am:m<=3)
  (b9:op=1\/op=2\/op=3\/op=4\/op=5\/op=6\/op=7\/op=8\/op=13):
  Calls prog 65 #[lN op len A J C K,.slice a m cap] w λe B=>e=.returned (.bool (eV op len C xs))/\B=w.alloc (fH op len A J C K):=by
 have Q:=f.keep (ez 0 0 w (fH op len A J C K)) yaa;clear f;rcases b9 with rfl|rfl|rfl|rfl|rfl|rfl|rfl|rfl|rfl
 all_goals
  rw[show eV _ len C xs=xs.all (· ==len) by simp[eV]]
  go_enter func65,ntmps65
  go_wp2_with fail
  refine(Nj _ _ _ _ _ _ _ _ Q xaa).mono ?_
  rintro e B ⟨rfl,rfl⟩
  go_wp2
  go_ret
  exact⟨rfl,rfl⟩
theorem AM(w op len A J C K a m cap xs)
  (h:op≠1/\op≠2/\op≠3/\op≠4/\op≠5/\op≠6/\op≠7/\op≠8/\op≠9/\op≠10/\op≠11/\op≠12/\op≠13):
  Calls prog 65 #[lN op len A J C K,.slice a m cap] w λe B=>e=.returned (.bool (eV op len C xs))/\B=w.alloc (fH op len A J C K):=by
 obtain⟨F,N,h3,a6,bF,bp,aj,ax,aP,u,y,H,I⟩:=h;have e:eV op len C xs=false:=by grind[eV]
 rw[e];have aX:(op==1)=false:=yan F;have bb:(op==2)=false:=yan N;have co:(op==3)=false:=yan h3;have cg:(op==4)=false:=yan a6;have ag:(op==5)=false:=yan bF;have R:(op==6)=false:=yan bp;have cc:(op==7)=false:=yan aj;have p:(op==8)=false:=yan ax;have r:(op==9)=false:=yan aP;have f:(op==10)=false:=yan u;have i:(op==11)=false:=yan y;have q:(op==12)=false:=yan H;have j:(op==13)=false:=yan I;clear e F N h3 a6 bF bp aj ax aP u y H I;go_enter func65,ntmps65;go_wp2;go_ret;exact⟨rfl,rfl⟩
theorem Dc(w op len A J C x K g off cap)(aJ:g<w.heap.size)(ah:w.cell? ⟨g,off,none⟩=some (hA x))
  (b9:op=9\/op=10\/op=11\/op=12):
  Calls prog 65 #[lN op len A J C K,.slice (some ⟨g,off,none⟩) 1 cap] w λe B=>e=.returned (.bool (eV op len C [x]))/\Kept 0 0 w B:=by
 have aV:(w.alloc (fH op len A J C K)).cell? ⟨g,off,none⟩=some (hA x):=by grind[World.cell?_alloc_past]
 rcases b9 with rfl|rfl|rfl|rfl
 ·
  cases t:(len==1)
  ·rw[show eV 9 len C [x]=false by simp[eV,t]]
   exact xfi
  ·rw[show eV 9 len C [x]=lenB x by simp[eV,t]]
   go_enter func65,ntmps65
   go_wp2_with fail
   refine(fD _ _).mono ?_
   exact xis
 ·rw[show eV 10 len C [x]=(x==1) by simp[eV]];exact xfi
 ·cases t:(len==1)
  ·rw[show eV 11 len C [x]=false by simp[eV,t]];go_enter func65,ntmps65;go_wp2;go_quiet (fail)
   go_wp2;go_ret;exact⟨rfl,(ez _ _ _ _).trans (eJ _ _ _ _)⟩
  cases bb:lenB x
  ·rw[show eV 11 len C [x]=false by simp[eV,bb]];exact xdv
  rw[show eV 11 len C [x]=fR C x by simp[eV,t,bb]];exact xdv
 cases t:(x==1)
 ·rw[show eV 12 len C [x]=false by simp[eV,t]];exact xfi
 rw[show eV 12 len C [x]=fR C len by simp[eV,t]];go_enter func65,ntmps65;go_wp2_with fail;refine(hY _ _ _).mono ?_;exact xis
theorem fI(op):cnt op<=3:=by
 grind[cnt]
theorem mE(w op len A J C K lo hi a m cap xs)(f:IS w lo hi a m xs)(am:m=cnt op):
  Calls prog 65 #[lN op len A J C K,.slice a m cap] w λe B=>e=.returned (.bool (eV op len C xs))/\Kept 0 0 w B:=by
 have aB:(op=9\/op=10\/op=11\/op=12)->Calls prog 65 #[lN op len A J C K,.slice a m cap] w λe B=>e=.returned (.bool (eV op len C xs))/\Kept 0 0 w B:=by
  intro b9;have a5:m=1:=by rw[am];rcases b9 with rfl|rfl|rfl|rfl<;>rfl
  subst a5;rcases f.at_ with al|⟨g,off,rfl,a1,U,a3,a4⟩
  ·omega
  obtain⟨x,rfl⟩:∃x,xs=[x]:=List.length_eq_one_iff.1 f.len;exact Dc w op len A J C x K g off cap a3 (a4 0 xaa) b9
 have I:m<=3:=by rw[am];exact fI op
 rcases pV op with h|h|h|h|h|h|h|h|h|h|h|h|h|h
 all_goals first
  |exact aB xaa
  |exact(Db w op len A J C K lo hi a m cap xs f I xaa).mono λ_ _ h=>⟨h.1,by rw[h.2];exact ez _ _ _ _⟩
  |exact(AM w op len A J C K a m cap xs h).mono λ_ _ h=>⟨h.1,by rw[h.2];exact ez _ _ _ _⟩
theorem iD{W}(h:Kept 0 0 w W)(aJ:g<w.heap.size){v}(ah:w.cell? ⟨g,o,none⟩=some v):W.cell? ⟨g,o,none⟩=some v:=by
 rw[h.cell aJ xaa];exact ah
structure Vl where
 op:Int
 len:Int
 a:Int
 b:Int
 c:Int
 k:Nat
def Vl.cells(v:Vl):List Value:=[.int .i64 v.op,.int .i64 v.len,.int .i64 v.a,.int .i64 v.b,.int .i64 v.c,.float .f64 v.k]
def hF:Vl:=⟨0,0,0,0,0,0⟩
abbrev Vl.agg(v:Vl):Value:=lN v.op v.len v.a v.b v.c v.k
structure At(w:World)(g o:Nat)(v:Vl):Prop where
 c0:w.cell? ⟨g,o,none⟩=some (.int .i64 v.op)
 c1:w.cell? ⟨g,o+1,none⟩=some (.int .i64 v.len)
 c2:w.cell? ⟨g,o+2,none⟩=some (.int .i64 v.a)
 c3:w.cell? ⟨g,o+3,none⟩=some (.int .i64 v.b)
 c4:w.cell? ⟨g,o+4,none⟩=some (.int .i64 v.c)
 c5:w.cell? ⟨g,o+5,none⟩=some (.float .f64 v.k)
theorem yz:(prog.info? 62).map (λi=>(i.zero,i.size,i.bytes))=some (some (lN 0 0 0 0 0 0),6,48):=by kernel_rfl
structure VA(w:World)(g n:Nat)(vs:List Vl):Prop where
 len:vs.length=n
 lt:g<w.heap.size
 at_:∀k,k<n->At w g (k*6) (vs.getD k hF)
 free:∀o,w.frozen? ⟨g,o,none⟩=false
theorem eQ(w:World)(g aq a b v)(h:g≠aq\/a≠b):(w.setCell ⟨g,a,none⟩ v).cell? ⟨aq,b,none⟩=w.cell? ⟨aq,b,none⟩:=
 World.cell?_setCell_other w ⟨g,a,none⟩ ⟨aq,b,none⟩ v (by grind)
theorem fy(w:World)(g a v u)(h:w.cell? ⟨g,a,none⟩=some u):(w.setCell ⟨g,a,none⟩ v).cell? ⟨g,a,none⟩=some v:=World.cell?_setCell_same w ⟨g,a,none⟩ v h
theorem sM{y:Prop}(h:y:=by
 repeat rw[eQ _ _ _ _ _ _ xaa]
 first
  |with_reducible assumption
  |exact fy _ _ _ _ _ (by(repeat rw[eQ _ _ _ _ _ _ xaa]);with_reducible assumption)):y:=h
theorem At.keep{v}(a:At w g o v)(aJ:g<w.heap.size)(k:Kept l h w B)(aK:g<l\/h<=g\/h<=l):At B g o v:=by
 have e:∀b,_:=λb=>k.cell (p:=⟨g,b,none⟩) aJ (by grind);exact⟨hL e a.c0,hL e a.c1,hL e a.c2,hL e a.c3,hL e a.c4,hL e a.c5⟩
theorem VA.keep{vs}(f:VA w g n vs)(k:Kept l h w B)(aK:g<l\/h<=g\/h<=l):VA B g n vs:=
 ⟨f.len,yak f.lt k.size,λi hi=>(f.at_ i hi).keep f.lt k aK,λo=>by rw[k.frozen f.lt (by grind)];exact f.free o⟩
structure VS(w:World)(lo hi:Nat)(a:Option Addr)(n:Nat)(vs:List Vl):Prop where
 len:vs.length=n
 lt:∀v∈vs,v.k<18446744073709551616
 at_:n=0\/∃g off,a=some ⟨g,off,none⟩/\lo<=g/\g<hi/\g<w.heap.size/\∀k,k<n->At w g (off+k*6) (vs.getD k hF)
theorem VS.keep{a vs}(f:VS w lo hi a n vs)(k:Kept l h w B)(aK:hi<=l\/h<=lo\/h<=l):VS B lo hi a n vs:=
 ⟨f.len,f.lt,by
  rcases f.at_ with al|⟨g,off,e,F,N,h3,a6⟩
  ·exact .inl al
  ·exact .inr ⟨g,_,e,F,N,yak h3 k.size,λj hj=>(a6 j hj).keep h3 k xaa⟩⟩
theorem VA.vs{vs}(f:VA w g n vs)(af:∀v∈vs,v.k<18446744073709551616):VS w 0 w.heap.size (some ⟨g,0,none⟩) n vs:=
 ⟨f.len,af,.inr ⟨g,0,rfl,yae,f.lt,f.lt,λk O=>by rw[Nat.zero_add];exact f.at_ k O⟩⟩
end
section
theorem sN(x y w):Calls prog 170 #[.float .f64 x,.float .f64 y] w λe B=>e=.returned (.float .f64 (fop .quo x y w))/\B=w.drewN (fnd .quo x y):=by
 have F:=@jX prog;have N:=wo;go_enter func170,ntmps170;go_wp2;go_ret;exact⟨rfl,rfl⟩
theorem qS(x y w):Calls prog 169 #[.float .f64 x,.float .f64 y] w λe B=>e=.returned (.float .f64 (fop .mul x y w))/\B=w.drewN (fnd .mul x y):=by
 have F:=@lM prog;have N:=wo;go_enter func169,ntmps169;go_wp2;go_ret;exact⟨rfl,rfl⟩
theorem yB(x y w):Calls prog 167 #[.float .f64 x,.float .f64 y] w λe B=>e=.returned (.float .f64 (fop .add x y w))/\B=w.drewN (fnd .add x y):=by
 have F:=@nQ prog;have N:=wo;go_enter func167,ntmps167;go_wp2;go_ret;exact⟨rfl,rfl⟩
def rV(r:Nat):Nat->Nat
 |0=>4607182418800017408
 |n+1=>cop .add (cop .quo (cop .mul r (rV r n)) (floatOfInt .f64 (14-(n:Int)))) 4607182418800017408
def csq(p:Nat):Nat->Nat
 |0=>p
 |n+1=>cop .mul (csq p n) (csq p n)
theorem sO{r p q n:Nat}(k aA ag aF)(O:k=14-(n:Int))(h:fb p=fb (rV r n))
  (ap:q=fop .add (fop .quo (fop .mul r p aA) (floatOfInt .f64 k) ag) 4607182418800017408 aF):fb q=fb (rV r (n+1)):=by
 subst O ap;rw[gl];unfold rV;congr 1;refine gG _ ?_ rfl;rw[gl];congr 1;refine gG _ ?_ rfl;rw[gl];congr 1;exact gG _ rfl h
def mV(r n:Nat):Prop:=∀(k:Int) (w:World),n<=14->k=15-(n:Int)->
    Calls prog 129 #[.float .f64 r,.int .i64 k] w λe w'=>∃y,e=.returned (.float .f64 y)/\fb y=fb (rV r n)/\y<18446744073709551616/\∃m,w'=w.drewN m
theorem yC(r):mV r 0:=by
 intro k w ad O;have u:(14:Int)<k:=xaa;clear O;go_enter func129,ntmps129;go_wp2;go_ret;exact⟨_,rfl,rfl,by omega,0,rfl⟩
theorem yD(r n)(al:mV r n):mV r (n+1):=by
 intro k w ad O;have ca:k<=14:=xaa;have bP:1<=k:=xaa;have Y:E (k=15-((n+1:Nat):Int)):=O;clear O;have F:=@nQ prog;have N:=@lM prog;have h3:=@jX prog;go_enter func129,ntmps129;go_wp2_with fail;refine(al _ _ xaa (hJ Y.o)).mono ?_;rintro e B ⟨y,rfl,bN,aG,m,rfl⟩;go_wp2;go_ret;exact⟨_,rfl,sO k _ _ _ (hJ Y.o) bN rfl,gJ _ _ _ _,_,rfl⟩
theorem Fz(r):∀n,mV r n
 |0=>yC r
 |n+1=>yD r n (Fz r n)
def rW(x:Nat):Nat:=
 if FloatKind.f64.format.order x x !=some .eq then x
 else if FloatKind.f64.format.order x 4652007308841189376==some .gt then 9218868437227405312
 else if FloatKind.f64.format.order x 13875379345695965184==some .lt then 0
 else csq (rV (cop .quo x 4652218415073722368) 14) 10
theorem pC{r u}(h:fb r=fb u):∀n,fb (rV r n)=fb (rV u n)
 |0=>rfl
 |n+1=>by
  unfold rV
  congr 1
  refine gG _ ?_ rfl
  congr 1
  refine gG _ ?_ rfl
  congr 1
  exact gG _ h (pC h n)
theorem wv{c y q k w}(h:fb y=fb (csq c k))(ap:q=fop .mul y y w):fb q=fb (csq c (k+1)):=by
 subst ap;rw[gl];unfold csq;congr 1;exact gG _ h h
theorem JM(x w)(an:x<18446744073709551616):
  Calls prog 109 #[.float .f64 x] w λe B=>∃y,e=.returned (.float .f64 y)/\fb y=fb (rW x)/\y<18446744073709551616/\∃m,B=w.drewN m:=by
 unfold rW;cases F:(FloatKind.f64.format.order x x !=some .eq)
 ·cases N:(FloatKind.f64.format.order x 4652007308841189376==some .gt)
  ·cases h3:(FloatKind.f64.format.order x 13875379345695965184==some .lt)
   ·simp only[Bool.false_eq_true,if_false];have ap:(binOp .quo 57 (.float .f64 x) (.float .f64 4652218415073722368)).run prog w=.ok (.float .f64 (fop .quo x 4652218415073722368 w)) (w.drewN (fnd .quo x 4652218415073722368)):=jX w 57 _ _;have au:=gl .quo x 4652218415073722368 w;have f:=pC au 14;clear au;generalize fop .quo x 4652218415073722368 w=r at ap f;generalize fnd .quo x 4652218415073722368=ci at ap;generalize rV (cop .quo x 4652218415073722368) 14=c at f⊢;go_enter func109,ntmps109;go_wp2_with fail;refine(oL _ _).mono ?_;rintro e B ⟨rfl,rfl⟩;go_wp2_with fail;refine(Fz _ 14 _ _ xaa xaa).mono ?_;rintro e B ⟨y,rfl,bN,aG,m,rfl⟩;have bP:=bN.trans f;clear ap bN f F N h3;have N:=@lM prog;go_wp2_with fail;go_loopw [4,5] (λp i W=>∃k R g,k<=10/\i=hA (k:Nat)/\p=.float .f64 R/\fb R=fb (csq c k)/\R<18446744073709551616/\W=B.drewN g) (λ_ i _=>10-(intOf i).toNat)
    case atStart=>exact⟨0,y,_,by omega,rfl,rfl,bP,aG,rfl⟩
    case round=>
     obtain⟨k,R,g,O,rfl,rfl,a5,af,rfl⟩:=hrel;by_cases h:k<10
     ·go_wp2;go_roundw;exact⟨k+1,_,_,by omega,by go_num,rfl,wv a5 rfl,gJ _ _ _ _,rfl⟩;simp[intOf];omega
     exact xih
   simp only[Bool.false_eq_true,if_false,if_true];exact xfd
  simp only[Bool.false_eq_true,if_false,if_true];have a6:=wu;exact xfd
 simp only[if_true];go_enter func109,ntmps109;go_wp2_with fail;refine(oL _ _).mono ?_;exact xii
theorem JN(w):Calls prog 180 #[hA 1] w λe B=>e=.returned (.float .f64 9218868437227405312)/\B=w:=by
 have ah:=Ni;go_enter func180,ntmps180;go_wp2;go_ret;exact⟨rfl,rfl⟩
theorem JO(x w)(an:x<18446744073709551616):
  Calls prog 178 #[.float .f64 x] w λe B=>∃y,e=.returned (.float .f64 y)/\fb y=fb (rW x)/\y<18446744073709551616/\∃m,B=w.drewN m:=by
 unfold rW;cases F:(FloatKind.f64.format.order x x !=some .eq)
 ·cases N:(FloatKind.f64.format.order x 4652007308841189376==some .gt)
  ·cases h3:(FloatKind.f64.format.order x 13875379345695965184==some .lt)
   ·simp only[Bool.false_eq_true,if_false];have au:=gl .quo x 4652218415073722368 w;have f:=pC au 14;clear au;generalize rV (cop .quo x 4652218415073722368) 14=c at f⊢;go_enter func178,ntmps178;go_wp2_with fail;refine(oM _ _).mono ?_;rintro e B ⟨rfl,rfl⟩;go_wp2_with fail;refine(sN _ _ _).mono ?_;rintro e az ⟨rfl,rfl⟩;clear F N h3;generalize fop .quo x 4652218415073722368 B=r at f⊢;generalize fnd .quo x 4652218415073722368=ci;go_wp2_with fail;go_loopw [4,5] (λp i W=>∃k R g,k<=14/\i=hA (14-(k:Nat))/\p=.float .f64 R/\fb R=fb (rV r k)/\R<18446744073709551616/\W=B.drewN g) (λ_ i _=>(intOf i).toNat)
    case atStart=>exact⟨0,_,_,by omega,rfl,rfl,rfl,by omega,rfl⟩
    case round=>
     obtain⟨k,R,g,O,rfl,rfl,a5,af,rfl⟩:=hrel;by_cases aG:k<14
     ·go_wp2_with fail;refine(qS _ _ _).mono ?_;rintro e az ⟨rfl,rfl⟩;go_wp2_with fail;refine(sN _ _ _).mono ?_;rintro e az ⟨rfl,rfl⟩;go_wp2_with fail;refine(yB _ _ _).mono ?_;rintro e az ⟨rfl,rfl⟩;go_wp2;go_roundw
      case rel=>first|exact⟨k+1,_,_,by omega,by go_num,rfl,sO (14-(k:Int)) _ _ _ rfl a5 rfl,gJ _ _ _ _,rfl⟩|((repeat apply Exists.intro);exact⟨⟨k+1,_,_,by omega,by go_num,rfl,sO (14-(k:Int)) _ _ _ rfl a5 rfl,gJ _ _ _ _,rfl⟩,rfl⟩)
      case measure=>simp[intOf];omega
     obtain rfl:k=14:=xaa;have ah:=a5.trans f;clear a5 f;go_wp2_with fail;go_loopw [4,29] (λp i W=>∃k R g,k<=10/\i=hA (k:Nat)/\p=.float .f64 R/\fb R=fb (csq c k)/\R<18446744073709551616/\W=B.drewN g) (λ_ i _=>10-(intOf i).toNat)
     case atStart=>exact⟨0,_,_,by omega,rfl,rfl,ah,af,rfl⟩
     case round=>
      obtain⟨k,l,j,O,rfl,rfl,a5,af,rfl⟩:=hrel;by_cases h:k<10
      ·go_wp2_with fail;refine(qS _ _ _).mono ?_;rintro e az ⟨rfl,rfl⟩;go_wp2;go_roundw
       case rel=>first|exact⟨k+1,_,_,by omega,by go_num,rfl,wv a5 rfl,gJ _ _ _ _,rfl⟩|((repeat apply Exists.intro);exact⟨⟨k+1,_,_,by omega,by go_num,rfl,wv a5 rfl,gJ _ _ _ _,rfl⟩,rfl⟩)
       case measure=>simp[intOf];omega
      exact xih
   simp only[Bool.false_eq_true,if_false,if_true];go_enter func178,ntmps178;go_wp2_with fail;refine(oM _ _).mono ?_;exact xdw
  simp only[Bool.false_eq_true,if_false,if_true];go_enter func178,ntmps178;go_wp2_with fail;refine(oM _ _).mono ?_;rintro e B ⟨rfl,rfl⟩;go_wp2_with fail;refine(JN _).mono ?_;exact xdw
 simp only[if_true];go_enter func178,ntmps178;go_wp2_with fail;refine(oM _ _).mono ?_;exact xii
