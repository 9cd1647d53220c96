import Derived.Test.YtcagphgmfbjneaaGreatP01
namespace Go.Proofs.Z
open Tryz Go.RowKit Flt
set_option maxRecDepth 1000000
set_option maxHeartbeats 0
section
variable{s:Bool}{x lo y r g hi u lo' U l hi' h n:Nat}{w B a b c:World}{xs:List Nat}
theorem Nq(b w):(callFunc 76 #[.float .f64 b]).run prog w=.ok (.value (.int .u64 b)) w:=by
 rw[run_callFunc_extern (e:=Extern.MathFloatBits.float64bits) func76 (by kernel_rfl) (by kernel_rfl) (by kernel_rfl) (by kernel_rfl)];rfl
theorem Fx(b w):(callFunc 77 #[.int .u64 b]).run prog w=.ok (.value (.float .f64 b.toNat)) w:=by
 rw[run_callFunc_extern (e:=Extern.MathFloatBits.float64frombits) func77 (by kernel_rfl) (by kernel_rfl) (by kernel_rfl) (by kernel_rfl)];rfl
theorem oX(x w):
  Calls prog 104 #[.float .f64 x] w λe B=>e=.returned (.bool (FloatKind.f64.format.order x x !=some .eq))/\B=w:=by
 go_enter func104,ntmps104;go_wp2;go_ret;exact⟨rfl,rfl⟩
theorem oY(x w):
  Calls prog 75 #[.float .f64 x] w λe B=>e=.returned (.bool (FloatKind.f64.format.order x x !=some .eq))/\B=w:=by
 go_enter func75,ntmps75;go_wp2;go_ret;exact⟨rfl,rfl⟩
theorem xh(x w)(h:(FloatKind.f64.format.order x x !=some .eq)=false):
  Calls prog 61 #[.float .f64 x] w λe B=>e=.returned (.int .u64 x)/\B=w:=by
 have al:=Nq;exact xit
theorem xi(x w)(h:(FloatKind.f64.format.order x x !=some .eq)=true):
  Calls prog 61 #[.float .f64 x] w λe B=>e=.returned (.int .u64 9221120237041090560)/\B=w:=by
 exact xit
theorem qo(h:r<=9218868437227405312):(FloatKind.f64.format.order (W s r) (W s r) !=some .eq)=false:=by
 rw[show FloatKind.f64.format.order (W s r) _=some _ from xe h];rfl
theorem sP(h:9218868437227405312<r)(aF:r<9223372036854775808):(FloatKind.f64.format.order (W s r) (W s r) !=some .eq)=true:=by
 rw[show FloatKind.f64.format.order (W s r) _=none from xg h aF];rfl
def fb(x:Nat):Nat:=if FloatKind.f64.format.order x x !=some .eq then 9221120237041090560 else x
theorem Fy(x w):
  Calls prog 61 #[.float .f64 x] w λe B=>e=.returned (.int .u64 (fb x:Nat))/\B=w:=by
 unfold fb;cases h:(FloatKind.f64.format.order x x !=some .eq)
 ·exact xh x w h
 exact xi x w h
theorem xl(h:r<=9218868437227405312):fb (W s r)=W s r:=by unfold fb;rw[qo h];rfl
theorem xn(h:9218868437227405312<r)(aF:r<9223372036854775808):fb (W s r)=9221120237041090560:=by unfold fb;rw[sP h aF];rfl
theorem PN{t q}(aF:r<9223372036854775808)(aA:q<9223372036854775808):(((W s r:Nat):Int)==((W t q:Nat):Int))=decide (r=q/\s=t):=by
 grind[PL]
theorem yT(aF:r<=9218868437227405312):(((W s r:Nat):Int)==9221120237041090560)=false/\((9221120237041090560:Int)==((W s r:Nat):Int))=false:=by
 grind[W]
abbrev f64:Ieee.Format:=FloatKind.f64.format
theorem A7(d:Ieee.Datum):(d.order d !=some .eq)=d.isNaN:=by
 cases d with
 |number s m i=>simp[Ieee.Datum.order,Ieee.Datum.isNaN]
 |infinity s=>cases s<;>rfl
 |nan s t=>rfl
theorem xo(x):(FloatKind.f64.format.order x x !=some .eq)=(FloatKind.f64.format.read x).isNaN:=A7 _
theorem oZ(h:(f64.read x).isNaN=true):fb x=9221120237041090560:=by
 unfold fb;rw[xo,h];rfl
theorem rx(h:(f64.read x).isNaN=false):fb x=x:=by
 unfold fb;rw[xo,h];rfl
theorem PO:(f64.read 9221120237041090560).isNaN=true:=xab
theorem mO(h:fb x=fb y):x=y\/((f64.read x).isNaN=true/\(f64.read y).isNaN=true):=by
 grind[rx,oZ,PO]
theorem vG(ap:(f64.read x).isNaN=true)(bp:(f64.read y).isNaN=true):fb x=fb y:=by
 rw[oZ ap,oZ bp]
theorem lR{d:Ieee.Datum}(h:d.isNaN=true):∃s t,d=.nan s t:=by
 cases d with
 |number s m i=>cases h
 |infinity s=>cases h
 |nan s t=>exact⟨s,t,rfl⟩
theorem jX(h:fb x=fb u)(h':fb y=fb U):f64.order x y=f64.order u U:=by
 rcases mO h with rfl|⟨a,b⟩
 ·rcases mO h' with rfl|⟨c,d⟩
  ·rfl
  exact(nV (lR c)).trans (nV (lR d)).symm
 exact(lY (lR a)).trans (lY (lR b)).symm
theorem lZ(op)(h:(f64.read x).isNaN=true):floatBits op .f64 x y=none:=by
 obtain⟨s,t,h⟩:=lR h;cases op<;>first|rfl|skip
 all_goals
  simp only[floatBits,Ieee.Format.add,Ieee.Format.sub,Ieee.Format.mul,Ieee.Format.div]
  rw[h]
  rfl
theorem lI(op)(h:(f64.read y).isNaN=true):floatBits op .f64 x y=none:=by
 obtain⟨s,t,h⟩:=lR h;cases op<;>first|rfl|skip
 all_goals
  simp only[floatBits,Ieee.Format.add,Ieee.Format.sub,Ieee.Format.mul,Ieee.Format.div]
  rw[h]
  cases f64.read x<;>rfl
def cop(op:BinOp)(x y:Nat):Nat:=(floatBits op .f64 x y).getD 9221120237041090560
theorem gn(op)(h:fb x=fb u)(h':fb y=fb U):cop op x y=cop op u U:=by
 unfold cop;rcases mO h with rfl|⟨a,b⟩
 ·rcases mO h' with rfl|⟨c,d⟩
  ·rfl
  rw[lI _ c,lI _ d]
 rw[lZ _ a,lZ _ b]
def fop(op:BinOp)(x y:Nat)(w:World):Nat:=
 (floatBits op .f64 x y).getD (Question.cut (.nanBits .f64 x y) (w.tape w.drawn (.nanBits .f64 x y)))
def fnd(op:BinOp)(x y:Nat):Nat:=if (floatBits op .f64 x y).isSome then 0 else 1
theorem Co(x y t):(f64.read (Question.cut (.nanBits .f64 x y) t)).isNaN=true/\Question.cut (.nanBits .f64 x y) t<18446744073709551616:=by
 simp only[Question.cut];obtain⟨k,O,hlt⟩:∃k,(t/2)%(2 ^ 52-1)=k/\k<4503599627370495:=⟨_,rfl,Nat.mod_lt _ xab⟩
 rw[O];rcases Nat.mod_two_eq_zero_or_one t with h|h
 ·rw[h];have e:0*2 ^ 63+9218868437227405312+1+k=W false (9218868437227405312+1+k):=by unfold W;simp
  exact xfx
 rw[h];have e:1*2 ^ 63+9218868437227405312+1+k=W true (9218868437227405312+1+k):=by unfold W;simp;omega
 exact xfx
theorem fV(op x y w):fb (fop op x y w)=fb (cop op x y):=by
 unfold fop cop;cases floatBits op .f64 x y with
 |none=>grind[vG,Co,PO]
 |some r=>rfl
theorem gF(op x y w):fop op x y w<18446744073709551616:=by
 unfold fop;cases h:floatBits op .f64 x y with
 |none=>grind[Co]
 |some r=>
  have:=floatBits_wf h;simpa[Lit.wf] using this
section
variable{P:Program} (w:World)
theorem sQ(op)(ho:op=.add\/op=.sub\/op=.mul\/op=.quo)(t x y):
  (binOp op t (.float .f64 x) (.float .f64 y)).run P w=.ok (.float .f64 (fop op x y w)) (w.drewN (fnd op x y)):=by
 cases h:floatBits op .f64 x y with
 |some r=>
  have af:fop op x y w=r:=by unfold fop;rw[h];rfl
  have bg:fnd op x y=0:=by unfold fnd;rw[h];rfl
  rw[af,bg,World.drewN_zero];exact run_float_arith w _ t _ x y r h
 |none=>
  have af:fop op x y w=Question.cut (.nanBits .f64 x y) (w.tape w.drawn (.nanBits .f64 x y)):=by unfold fop;rw[h];rfl
  have bg:fnd op x y=1:=by unfold fnd;rw[h];rfl
  rw[af,bg];unfold floatBits at h;rcases ho with rfl|rfl|rfl|rfl
  all_goals
   simp only at h
   simp[binOp,Op.floatArith,h,choose,Sem.run,Question.forced]
   rfl
theorem oA(t x y):(binOp .add t (.float .f64 x) (.float .f64 y)).run P w=.ok (.float .f64 (fop .add x y w)) (w.drewN (fnd .add x y)):=sQ w .add xac t x y
theorem yU(t x y):(binOp .sub t (.float .f64 x) (.float .f64 y)).run P w=.ok (.float .f64 (fop .sub x y w)) (w.drewN (fnd .sub x y)):=sQ w .sub xac t x y
theorem l9(t x y):(binOp .mul t (.float .f64 x) (.float .f64 y)).run P w=.ok (.float .f64 (fop .mul x y w)) (w.drewN (fnd .mul x y)):=sQ w .mul xac t x y
theorem kr(t x y):(binOp .quo t (.float .f64 x) (.float .f64 y)).run P w=.ok (.float .f64 (fop .quo x y w)) (w.drewN (fnd .quo x y)):=sQ w .quo xac t x y
end
theorem xq(b w):(convert 45 45 (.float .f64 b)).run prog w=.ok (.float .f64 b) w:=
 run_convert_float_float w 45 45 .f64 .f64 b b (by kernel_rfl) underlying45 (by simp[floatToFloatBits])
theorem xr(w):(binOp .quo 45 (.float .f64 4607182418800017408) (.float .f64 0)).run prog w=.ok (.float .f64 9218868437227405312) w:=
 run_float_arith (P:=prog) w .quo 45 .f64 4607182418800017408 0 9218868437227405312 xab
theorem eC{P a m}(k b):(store a (.float k b) m).run P w=stored P w a (.float k b) m:=run_store P w a _ m rfl
structure Kept(lo hi:Nat)(w w':World):Prop where
 os:w'.os=w.os
 tape:w'.tape=w.tape
 output:w'.output=w.output
 size:w.heap.size<=w'.heap.size
 block:∀k,k<w.heap.size->¬(lo<=k/\k<hi)->w'.heap[k]? =w.heap[k]?
theorem Kept.refl(lo hi w):Kept lo hi w w:=⟨rfl,rfl,rfl,yad,λ_ _ _=>rfl⟩
theorem iv{w:World}:Kept 0 0 w w:=Kept.refl 0 0 w
theorem Kept.trans(h:Kept lo hi a b)(k:Kept lo hi b c):Kept lo hi a c:=
 ⟨k.os.trans h.os,k.tape.trans h.tape,k.output.trans h.output,yao h.size k.size,λi hi' ag=>(k.block i (yak hi' h.size) ag).trans (h.block i hi' ag)⟩
theorem Kept.mono(h:Kept lo hi w B)(aw:∀k,k<w.heap.size->lo<=k/\k<hi->lo'<=k/\k<hi'):Kept lo' hi' w B:=
 ⟨h.os,h.tape,h.output,h.size,λk O ag=>h.block k O λc=>ag (aw k O c)⟩
theorem Kept.new{h'}(h:Kept lo hi a b)(k:Kept l h' b c)(ai:a.heap.size<=l):Kept lo hi a c:=
 ⟨k.os.trans h.os,k.tape.trans h.tape,k.output.trans h.output,yao h.size k.size,λi hi' ag=>(k.block i (yak hi' h.size) (λc=>by omega)).trans (h.block i hi' ag)⟩
theorem Kept.below(h:Kept 0 0 w B):Below w.heap.size w B:=⟨h.os,h.tape,h.output,h.size,λk O=>h.block k O xaa⟩
theorem eH(lo hi w m):Kept lo hi w (w.drewN m):=⟨rfl,rfl,rfl,yad,λ_ _ _=>rfl⟩
theorem eA(lo hi w o):Kept lo hi w (w.alloc o):=⟨rfl,rfl,rfl,by simp,λk O _=>Below.heap_alloc w o k O⟩
theorem eU(w a v)(h:lo<=a.block/\a.block<hi\/w.heap.size<=a.block):Kept lo hi w (w.setCell a v):=
 ⟨rfl,rfl,rfl,by simp,λk O ag=>Below.heap_setCell w a v k (λe=>by omega)⟩
theorem Kept.cell(h:Kept lo hi w B){p}(aQ:p.block<w.heap.size)(ag:¬(lo<=p.block/\p.block<hi)):B.cell? p=w.cell? p:=World.cell?_of_block (w:=w) (h.block p.block aQ ag)
theorem Kept.frozen(h:Kept lo hi w B){p}(aQ:p.block<w.heap.size)(ag:¬(lo<=p.block/\p.block<hi)):B.frozen? p=w.frozen? p:=World.frozen?_of_block (w:=w) (h.block p.block aQ ag)
def Drawn(w w':World):Prop:=∃m,w'=w.drewN m
theorem Drawn.refl(w):Drawn w w:=⟨0,rfl⟩
theorem Drawn.more(h:Drawn w B)(n):Drawn w (B.drewN n):=by
 obtain⟨m,rfl⟩:=h;exact⟨_,World.drewN_drewN ..⟩
theorem Drawn.trans(h:Drawn a b)(k:Drawn b c):Drawn a c:=by
 obtain⟨m,rfl⟩:=k;exact h.more m
theorem Drawn.cell(h:Drawn w B)(p):B.cell? p=w.cell? p:=by obtain⟨m,rfl⟩:=h;rfl
theorem Drawn.kept(h:Drawn w B)(lo hi):Kept lo hi w B:=by obtain⟨m,rfl⟩:=h;exact eH _ _ w m
structure FS(w:World)(lo hi:Nat)(a:Option Addr)(n:Nat)(xs:List Nat):Prop where
 len:xs.length=n
 lt:∀x∈xs,x<18446744073709551616
 at_:n=0\/∃g off,a=some ⟨g,off,none⟩/\lo<=g/\g<hi/\g<w.heap.size/\∀k,k<n->w.cell? ⟨g,off+k,none⟩=some (.float .f64 (xs.getD k 0))
theorem FS.keep{a}(f:FS w lo hi a n xs)(k:Kept l h w B)(aO:hi<=l\/h<=lo\/h<=l):FS B lo hi a n xs:=
 ⟨f.len,f.lt,by
  rcases f.at_ with ak|⟨g,off,e,F,h2,h3,h4⟩
  ·exact .inl ak
  ·exact .inr ⟨g,_,e,F,h2,yak h3 k.size,λj hj=>by rw[k.cell h3 (by show ¬(l<=g/\g<h);omega)];exact h4 j hj⟩⟩
theorem FS.mono{a}(f:FS w lo hi a n xs)(F:lo'<=lo)(h2:hi<=hi'):FS w lo' hi' a n xs:=
 ⟨f.len,f.lt,by
  rcases f.at_ with ak|⟨g,off,e,a1,J,a3,a4⟩
  ·exact .inl ak
  ·exact .inr ⟨g,_,e,by omega,by omega,a3,a4⟩⟩
theorem gh(h:∀x∈xs,x<18446744073709551616)(k):xs.getD k 0<18446744073709551616:=by
 rw[yai];by_cases O:k<xs.length
 ·exact xjh
 rw[List.getElem?_eq_none xaa];exact(by omega:0<18446744073709551616)
def FR(w:World)(g:Nat)(xs:List Nat):Prop:=w.heap[g]? =some (.cells (xs.map (Value.float .f64)).toArray 45 (0,0))
theorem FR.lt(h:FR w g xs):g<w.heap.size:=by
 unfold FR at h;rcases Nat.lt_or_ge g w.heap.size with c|c
 ·exact c
 rw[Array.getElem?_eq_none c]at h;cases h
theorem FR.cell(h:FR w g xs)(k)(O:k<xs.length):w.cell? ⟨g,k,none⟩=some (.float .f64 (xs.getD k 0)):=by
 rw[cell_of_row w g k _ _ _ h];simp[O,List.getD_eq_getElem?_getD]
theorem FR.free(h:FR w g xs)(k):w.frozen? ⟨g,k,none⟩=false:=frozen_of_row w g k _ _ h
theorem FR.keep(f:FR w g xs)(k:Kept l h w B)(aO:g<l\/h<=g\/h<=l):FR B g xs:=by
 unfold FR;rw[k.block g f.lt xaa];exact f
theorem FR.set(h:FR w g xs)(k x):FR (w.setCell ⟨g,k,none⟩ (.float .f64 x)) g (xs.set k x):=by
 unfold FR at h⊢;exact qdc
theorem FR.fs(h:FR w g xs)(ai:∀x∈xs,x<18446744073709551616)(F:lo<=g)(h2:g<hi):FS w lo hi (some ⟨g,0,none⟩) xs.length xs:=
 ⟨rfl,ai,.inr ⟨g,0,rfl,F,h2,h.lt,λk O=>by rw[Nat.zero_add];exact h.cell k O⟩⟩
theorem FR.made(w:World)(n):FR (w.alloc (.cells (madeCells #[.float .f64 0] n) 45)) w.heap.size (List.replicate n 0):=by
 unfold FR;rw[heap_alloc_new]
 have:(madeCells #[.float .f64 0] n)=(List.map (Value.float .f64) (List.replicate n 0)).toArray:=by
  apply Array.toList_inj.1;rw[toList_madeCells_one];simp
 rw[this]
theorem vH:(prog.info? 45).map (λi=>(i.zero,i.size,i.bytes))=some (some (.float .f64 0),1,8):=by kernel_rfl
end
section
attribute[local go_sem] eE eD eC
variable{w B:World}{ys:List Nat}{lo g hi o l n h:Nat}{xs:List Int}
theorem ry(n:Nat)(w)(ag:n<=1099511627776):
  (Instr.makeSlice 56 (h1 n) (h1 n)).run prog w=.ok (h0 w.heap.size n n) (w.alloc (.cells (madeCells #[.float .f64 0] n) 45)):=by
 obtain⟨i,hi,hz0,hz1,hz2⟩:=info_parts vH;have:=run_make (P:=prog) w 56 45 i (.float .f64 0) underlying56 hi hz0 .i64 .i64 n n xaa xaa (i3 hz2) xaa;exact qcb
def fS(xs ys:List Nat):Prop:=xs.map fb=ys.map fb
theorem jp{xs}(h:fS xs ys):xs.length=ys.length:=by
 have:=congrArg List.length h;simpa using this
theorem pd{xs}(ai:xs.length=ys.length)(h:∀k,k<xs.length->fb (xs.getD k 0)=fb (ys.getD k 0)):fS xs ys:=by
 unfold fS;apply List.ext_getElem (by simpa using ai);intro i F h2;have ak:i<xs.length:=by simpa using F
 have:=h i ak;simp only[List.getElem_map];rw[yai,yai,yam ak,yam (by omega:i<ys.length)]at this;exact this
theorem gD{xs}(h:fS xs ys)(k):fb (xs.getD k 0)=fb (ys.getD k 0):=by
 have:(xs.map fb)[k]? =(ys.map fb)[k]?:=by rw[h]
 rw[List.getElem?_map,List.getElem?_map]at this;rw[yai,yai];cases F:xs[k]?<;>cases h2:ys[k]?<;>rw[F,h2]at this<;>simp at this
 all_goals first|rfl|exact this
def lenB(n:Int):Bool:=decide (1<=n/\n<=1000)
theorem iV{n}(F:1<=n)(h2:n<=1000):lenB n=true:=decide_eq_true ⟨F,h2⟩
theorem mY{n}(h:¬(1<=n/\n<=1000)):lenB n=false:=yay h
theorem gX(n w):Calls prog 30 #[h1 n] w λe B=>e=.returned (.bool (lenB n))/\B=w:=by
 by_cases F:1<=n
 ·by_cases h2:n<=1000
  ·rw[iV F h2];exact xgf
  rw[mY (λc=>h2 c.2)];have t:=yay h2;exact xgf
 rw[mY (λc=>F c.1)];have t:=yay F;exact xgf
def cnt(op:Int):Nat:=if op=6\/op=9\/op=10\/op=11\/op=12\/op=13 then 1 else if op=2\/op=3\/op=4\/op=5\/op=7 then 2 else if op=8 then 3 else 0
theorem qp(op:Int):op=1\/op=2\/op=3\/op=4\/op=5\/op=6\/op=7\/op=8\/op=9\/op=10\/op=11\/op=12\/op=13\/(op≠1/\op≠2/\op≠3/\op≠4/\op≠5/\op≠6/\op≠7/\op≠8/\op≠9/\op≠10/\op≠11/\op≠12/\op≠13):=xaa
theorem qq(op w):Calls prog 54 #[h1 op] w λe B=>e=.returned (h1 (cnt op:Nat))/\B=w:=by
 rcases qp op with rfl|rfl|rfl|rfl|rfl|rfl|rfl|rfl|rfl|rfl|rfl|rfl|rfl|h
 ·exact xiu
 all_goals try
  (go_enter func54,ntmps54
   go_wp2
   go_ret
   exact⟨rfl,rfl⟩)
 obtain⟨F,h2,h3,h4,bK,b3,bZ,ar,ae,H,J,T,aq⟩:=h;have e:cnt op=0:=by grind[cnt]
 rw[e];have a9:=yan h2;have bV:=yan h3;have cj:=yan h4;have cC:=yan bK;have dT:=yan b3;have da:=yan bZ;have j:=yan ar;have r:=yan ae;have b:=yan H;have f:=yan J;have k:=yan T;have d:=yan aq;clear e F h2 h3 h4 bK b3 bZ ar ae H J T aq;exact xiu
structure IS(w:World)(lo hi:Nat)(a:Option Addr)(n:Nat)(xs:List Int):Prop where
 len:xs.length=n
 at_:n=0\/∃g off,a=some ⟨g,off,none⟩/\lo<=g/\g<hi/\g<w.heap.size/\∀k,k<n->w.cell? ⟨g,off+k,none⟩=some (.int .i64 (xs.getD k 0))
theorem IS.keep{a}(f:IS w lo hi a n xs)(k:Kept l h w B)(aO:hi<=l\/h<=lo\/h<=l):IS B lo hi a n xs:=
 ⟨f.len,by
  rcases f.at_ with ak|⟨g,off,e,F,h2,h3,h4⟩
  ·exact .inl ak
  ·exact .inr ⟨g,_,e,F,h2,yak h3 k.size,λj hj=>by rw[k.cell h3 (by grind)];grind⟩⟩
theorem IS.prefix{a}(f:IS w lo hi a n xs)(m)(ao:m<=n):IS w lo hi a m (xs.take m):=
 ⟨by rw[List.length_take,f.len];omega,by
  rcases f.at_ with ak|⟨g,off,e,a1,J,a3,a4⟩<;>simp_all<;>grind⟩
theorem Fz{n k}(O:k<xs.length)(h:(xs.take k).all (· ==n)=true)(t:(xs.getD k 0 !=n)=false):(xs.take (k+1)).all (· ==n)=true:=by
 rw[yau O,List.all_append,h];rw[yai,yam O]at t;simp at t;simp[t]
theorem JI{n k}(O:k<xs.length)(t:(xs.getD k 0 !=n)=true):xs.all (· ==n)=false:=by
 rw[yai,yam O]at t;simp at t;rw[List.all_eq_false];exact⟨xs[k],List.getElem_mem _,by simp[t]⟩
theorem A8(w g off m cap n)(xs:List Int)(ap:xs.length=m)(ao:m<=1099511627776)
  (al:∀k,k<m->w.cell? ⟨g,off+k,none⟩=some (h1 (xs.getD k 0))):
  Calls prog 73 #[.slice (some ⟨g,off,none⟩) m cap,h1 n] w λe B=>e=.returned (.bool (xs.all (· ==n)))/\B=w:=by
 have bf:V (∀k,k<m->w.cell? ⟨g,off+k,none⟩=some (h1 (xs.getD k 0))):=al;have HX:V (xs.length=m):=ap;clear al ap;go_enter func73,ntmps73;go_wp2_with fail;go_loop [9] (λi=>∃k:Nat,k<=m/\i=h1 k/\V ((xs.take k).all (· ==n)=true)) (λi=>m-(intOf i).toNat)
 case atStart=>exact⟨0,yae,rfl,rfl⟩
 case round=>
  obtain⟨k,O,rfl,be⟩:=hrel;by_cases hlt:k<m
  ·have c:=bf.o k hlt;cases t:(xs.getD k 0 !=n)
   ·have R:V _:=Fz (i1 HX.o hlt) be.o t;generalize xs.getD k 0=x at c t;exact xcx
   have R:V (xs.all (· ==n)=false):=JI (i1 HX.o hlt) t;generalize xs.getD k 0=x at c t;go_wp2;go_ret;exact⟨i4 R.o,rfl⟩
  obtain rfl:k=m:=xaa
  have R:V (xs.all (· ==n)=true):=by
   have:=be.o;rw[yap (i3 HX.o)]at this;exact this
  clear be;go_wp2;go_ret;exact⟨i4 R.o,rfl⟩
theorem yV(w a cap n):
  Calls prog 73 #[.slice a 0 cap,h1 n] w λe B=>e=.returned (.bool true)/\B=w:=by
 go_enter func73,ntmps73;go_wp2_with fail;refine wp_loop_rounds 1 ?_;rw[rounds_succ];go_wp2;go_ret;exact⟨rfl,rfl⟩
theorem Nr(w lo hi a m cap n xs)(f:IS w lo hi a m xs)(ao:m<=1099511627776):
  Calls prog 73 #[.slice a m cap,h1 n] w λe B=>e=.returned (.bool (xs.all (· ==n)))/\B=w:=by
 rcases f.at_ with rfl|⟨g,off,rfl,a1,J,a3,a4⟩
 ·have:xs=[]:=List.length_eq_zero_iff.1 f.len;subst this;exact yV w a cap n
 exact A8 w g off m cap n xs f.len ao a4
def gm(i n:Int):Bool:=decide (0<=i/\i<n)
theorem lA(i n w):Calls prog 55 #[h1 i,h1 n] w λe B=>e=.returned (.bool (gm i n))/\B=w:=by
 by_cases F:0<=i
 ·by_cases h2:i<n
  ·rw[show gm i n=true from decide_eq_true ⟨F,h2⟩];exact xgg
  rw[show gm i n=false from yay (λc=>h2 c.2)];have t:=yay h2;exact xgg
 rw[show gm i n=false from yay (λc=>F c.1)];have t:=yay F;exact xgg
abbrev lK(op len A B C:Int)(K:Nat):Value:=.agg #[.int .i64 op,.int .i64 len,.int .i64 A,.int .i64 B,.int .i64 C,.float .f64 K]
abbrev fW(op len A B C:Int)(K:Nat):Obj:=.cells #[.int .i64 op,.int .i64 len,.int .i64 A,.int .i64 B,.int .i64 C,.float .f64 K] 86
def eQ(op len C:Int)(xs:List Int):Bool:=
 if op=9 then len==1&&lenB (xs.getD 0 0)
 else if op=10 then xs.getD 0 0==1
 else if op=11 then (len==1&&lenB (xs.getD 0 0))&&gm C (xs.getD 0 0)
 else if op=12 then xs.getD 0 0==1&&gm C len
 else if 1<=op/\op<=13 then xs.all (· ==len)
 else false
theorem Dl(w op len A I C K lo hi a m cap xs)(f:IS w lo hi a m xs)(ao:m<=3)
  (b4:op=1\/op=2\/op=3\/op=4\/op=5\/op=6\/op=7\/op=8\/op=13):
  Calls prog 56 #[lK op len A I C K,.slice a m cap] w λe B=>e=.returned (.bool (eQ op len C xs))/\B=w.alloc (fW op len A I C K):=by
 have t:=f.keep (eA 0 0 w (fW op len A I C K)) yaa;clear f;rcases b4 with rfl|rfl|rfl|rfl|rfl|rfl|rfl|rfl|rfl
 all_goals
  rw[show eQ _ len C xs=xs.all (· ==len) by simp[eQ]]
  go_enter func56,ntmps56
  go_wp2_with fail
  refine(Nr _ _ _ _ _ _ _ _ t xaa).mono ?_
  rintro e B ⟨rfl,rfl⟩
  go_wp2
  go_ret
  exact⟨rfl,rfl⟩
theorem A9(w op len A I C K a m cap xs)
  (h:op≠1/\op≠2/\op≠3/\op≠4/\op≠5/\op≠6/\op≠7/\op≠8/\op≠9/\op≠10/\op≠11/\op≠12/\op≠13):
  Calls prog 56 #[lK op len A I C K,.slice a m cap] w λe B=>e=.returned (.bool (eQ op len C xs))/\B=w.alloc (fW op len A I C K):=by
 obtain⟨F,h2,h3,h4,bK,b3,bZ,ar,ae,H,J,T,aq⟩:=h;have e:eQ op len C xs=false:=by grind[eQ]
 rw[e];have aS:(op==1)=false:=yan F;have a9:(op==2)=false:=yan h2;have bV:(op==3)=false:=yan h3;have cj:(op==4)=false:=yan h4;have cC:(op==5)=false:=yan bK;have dT:(op==6)=false:=yan b3;have da:(op==7)=false:=yan bZ;have j:(op==8)=false:=yan ar;have r:(op==9)=false:=yan ae;have b:(op==10)=false:=yan H;have f:(op==11)=false:=yan J;have k:(op==12)=false:=yan T;have d:(op==13)=false:=yan aq;clear e F h2 h3 h4 bK b3 bZ ar ae H J T aq;go_enter func56,ntmps56;go_wp2;go_ret;exact⟨rfl,rfl⟩
theorem Dm(w op len A I C x K g off cap)(aK:g<w.heap.size)(al:w.cell? ⟨g,off,none⟩=some (h1 x))
  (b4:op=9\/op=10\/op=11\/op=12):
  Calls prog 56 #[lK op len A I C K,.slice (some ⟨g,off,none⟩) 1 cap] w λe B=>e=.returned (.bool (eQ op len C [x]))/\Kept 0 0 w B:=by
 have aY:(w.alloc (fW op len A I C K)).cell? ⟨g,off,none⟩=some (h1 x):=by grind[World.cell?_alloc_past]
 rcases b4 with rfl|rfl|rfl|rfl
 ·
  cases t:(len==1)
  ·rw[show eQ 9 len C [x]=false by simp[eQ,t]]
   exact xfu
  ·rw[show eQ 9 len C [x]=lenB x by simp[eQ,t]]
   go_enter func56,ntmps56
   go_wp2_with fail
   refine(gX _ _).mono ?_
   exact xjb
 ·rw[show eQ 10 len C [x]=(x==1) by simp[eQ]];exact xfu
 ·cases t:(len==1)
  ·rw[show eQ 11 len C [x]=false by simp[eQ,t]];go_enter func56,ntmps56;go_wp2;go_quiet (fail)
   go_wp2;go_ret;exact⟨rfl,(eA _ _ _ _).trans (eH _ _ _ _)⟩
  cases a9:lenB x
  ·rw[show eQ 11 len C [x]=false by simp[eQ,a9]];exact xee
  rw[show eQ 11 len C [x]=gm C x by simp[eQ,t,a9]];exact xee
 cases t:(x==1)
 ·rw[show eQ 12 len C [x]=false by simp[eQ,t]];exact xfu
 rw[show eQ 12 len C [x]=gm C len by simp[eQ,t]];go_enter func56,ntmps56;go_wp2_with fail;refine(lA _ _ _).mono ?_;exact xjb
theorem gK(op):cnt op<=3:=by
 grind[cnt]
theorem pe(w op len A I C K lo hi a m cap xs)(f:IS w lo hi a m xs)(ao:m=cnt op):
  Calls prog 56 #[lK op len A I C K,.slice a m cap] w λe B=>e=.returned (.bool (eQ op len C xs))/\Kept 0 0 w B:=by
 have Y:(op=9\/op=10\/op=11\/op=12)->Calls prog 56 #[lK op len A I C K,.slice a m cap] w λe B=>e=.returned (.bool (eQ op len C xs))/\Kept 0 0 w B:=by
  intro b4;have cG:m=1:=by rw[ao];rcases b4 with rfl|rfl|rfl|rfl<;>rfl
  subst cG;rcases f.at_ with ak|⟨g,off,rfl,a1,J,a3,a4⟩
  ·omega
  obtain⟨x,rfl⟩:∃x,xs=[x]:=List.length_eq_one_iff.1 f.len;exact Dm w op len A I C x K g off cap a3 (a4 0 xaa) b4
 have r:m<=3:=by rw[ao];exact gK op
 rcases qp op with h|h|h|h|h|h|h|h|h|h|h|h|h|h
 all_goals first
  |exact Y xaa
  |exact(Dl w op len A I C K lo hi a m cap xs f r xaa).mono λ_ _ h=>⟨h.1,by rw[h.2];exact eA _ _ _ _⟩
  |exact(A9 w op len A I C K a m cap xs h).mono λ_ _ h=>⟨h.1,by rw[h.2];exact eA _ _ _ _⟩
theorem iI{W}(h:Kept 0 0 w W)(aK:g<w.heap.size){v}(al:w.cell? ⟨g,o,none⟩=some v):W.cell? ⟨g,o,none⟩=some v:=by
 rw[h.cell aK xaa];exact al
structure Vl where
 op:Int
 len:Int
 a:Int
 b:Int
 c:Int
 k:Nat
def Vl.cells(v:Vl):List Value:=[.int .i64 v.op,.int .i64 v.len,.int .i64 v.a,.int .i64 v.b,.int .i64 v.c,.float .f64 v.k]
def h9:Vl:=⟨0,0,0,0,0,0⟩
abbrev Vl.agg(v:Vl):Value:=lK v.op v.len v.a v.b v.c v.k
structure At(w:World)(g o:Nat)(v:Vl):Prop where
 c0:w.cell? ⟨g,o,none⟩=some (.int .i64 v.op)
 c1:w.cell? ⟨g,o+1,none⟩=some (.int .i64 v.len)
 c2:w.cell? ⟨g,o+2,none⟩=some (.int .i64 v.a)
 c3:w.cell? ⟨g,o+3,none⟩=some (.int .i64 v.b)
 c4:w.cell? ⟨g,o+4,none⟩=some (.int .i64 v.c)
 c5:w.cell? ⟨g,o+5,none⟩=some (.float .f64 v.k)
theorem yW:(prog.info? 86).map (λi=>(i.zero,i.size,i.bytes))=some (some (lK 0 0 0 0 0 0),6,48):=by kernel_rfl
structure VA(w:World)(g n:Nat)(vs:List Vl):Prop where
 len:vs.length=n
 lt:g<w.heap.size
 at_:∀k,k<n->At w g (k*6) (vs.getD k h9)
 free:∀o,w.frozen? ⟨g,o,none⟩=false
theorem eV(w:World)(g aC a b v)(h:g≠aC\/a≠b):(w.setCell ⟨g,a,none⟩ v).cell? ⟨aC,b,none⟩=w.cell? ⟨aC,b,none⟩:=
 World.cell?_setCell_other w ⟨g,a,none⟩ ⟨aC,b,none⟩ v (by grind)
theorem fy(w:World)(g a v u)(h:w.cell? ⟨g,a,none⟩=some u):(w.setCell ⟨g,a,none⟩ v).cell? ⟨g,a,none⟩=some v:=World.cell?_setCell_same w ⟨g,a,none⟩ v h
theorem tO{P:Prop}(h:P:=by
 repeat rw[eV _ _ _ _ _ _ xaa]
 first
  |with_reducible assumption
  |exact fy _ _ _ _ _ (by(repeat rw[eV _ _ _ _ _ _ xaa]);with_reducible assumption)):P:=h
theorem At.keep{v}(a:At w g o v)(aK:g<w.heap.size)(k:Kept l h w B)(aO:g<l\/h<=g\/h<=l):At B g o v:=by
 have e:∀b,_:=λb=>k.cell (p:=⟨g,b,none⟩) aK (by grind);exact⟨i1 e a.c0,i1 e a.c1,i1 e a.c2,i1 e a.c3,i1 e a.c4,i1 e a.c5⟩
theorem VA.keep{vs}(f:VA w g n vs)(k:Kept l h w B)(aO:g<l\/h<=g\/h<=l):VA B g n vs:=
 ⟨f.len,yak f.lt k.size,λi hi=>(f.at_ i hi).keep f.lt k aO,λo=>by rw[k.frozen f.lt (by grind)];exact f.free o⟩
structure VS(w:World)(lo hi:Nat)(a:Option Addr)(n:Nat)(vs:List Vl):Prop where
 len:vs.length=n
 lt:∀v∈vs,v.k<18446744073709551616
 at_:n=0\/∃g off,a=some ⟨g,off,none⟩/\lo<=g/\g<hi/\g<w.heap.size/\∀k,k<n->At w g (off+k*6) (vs.getD k h9)
theorem VS.keep{a vs}(f:VS w lo hi a n vs)(k:Kept l h w B)(aO:hi<=l\/h<=lo\/h<=l):VS B lo hi a n vs:=
 ⟨f.len,f.lt,by
  rcases f.at_ with ak|⟨g,off,e,F,h2,h3,h4⟩
  ·exact .inl ak
  ·exact .inr ⟨g,_,e,F,h2,yak h3 k.size,λj hj=>(h4 j hj).keep h3 k xaa⟩⟩
theorem VA.vs{vs}(f:VA w g n vs)(ai:∀v∈vs,v.k<18446744073709551616):VS w 0 w.heap.size (some ⟨g,0,none⟩) n vs:=
 ⟨f.len,ai,.inr ⟨g,0,rfl,yae,f.lt,f.lt,λk O=>by rw[Nat.zero_add];exact f.at_ k O⟩⟩
end
section
theorem tP(x y w):Calls prog 168 #[.float .f64 x,.float .f64 y] w λe B=>e=.returned (.float .f64 (fop .quo x y w))/\B=w.drewN (fnd .quo x y):=by
 have F:=@kr prog;have h2:=xq;go_enter func168,ntmps168;go_wp2;go_ret;exact⟨rfl,rfl⟩
theorem rz(x y w):Calls prog 167 #[.float .f64 x,.float .f64 y] w λe B=>e=.returned (.float .f64 (fop .mul x y w))/\B=w.drewN (fnd .mul x y):=by
 have F:=@l9 prog;have h2:=xq;go_enter func167,ntmps167;go_wp2;go_ret;exact⟨rfl,rfl⟩
theorem yX(x y w):Calls prog 165 #[.float .f64 x,.float .f64 y] w λe B=>e=.returned (.float .f64 (fop .add x y w))/\B=w.drewN (fnd .add x y):=by
 have F:=@oA prog;have h2:=xq;go_enter func165,ntmps165;go_wp2;go_ret;exact⟨rfl,rfl⟩
def sE(r:Nat):Nat->Nat
 |0=>4607182418800017408
 |n+1=>cop .add (cop .quo (cop .mul r (sE r n)) (floatOfInt .f64 (14-(n:Int)))) 4607182418800017408
def csq(p:Nat):Nat->Nat
 |0=>p
 |n+1=>cop .mul (csq p n) (csq p n)
theorem tQ{r p q n:Nat}(k aH am aU)(O:k=14-(n:Int))(h:fb p=fb (sE r n))
  (aA:q=fop .add (fop .quo (fop .mul r p aH) (floatOfInt .f64 k) am) 4607182418800017408 aU):fb q=fb (sE r (n+1)):=by
 subst O aA;rw[fV];unfold sE;congr 1;refine gn _ ?_ rfl;rw[fV];congr 1;refine gn _ ?_ rfl;rw[fV];congr 1;exact gn _ rfl h
def mZ(r n:Nat):Prop:=∀(k:Int) (w:World),n<=14->k=15-(n:Int)->
    Calls prog 105 #[.float .f64 r,.int .i64 k] w λe w'=>∃y,e=.returned (.float .f64 y)/\fb y=fb (sE r n)/\y<18446744073709551616/\∃m,w'=w.drewN m
theorem yY(r):mZ r 0:=by
 intro k w ag O;have G:(14:Int)<k:=xaa;clear O;go_enter func105,ntmps105;go_wp2;go_ret;exact⟨_,rfl,rfl,by omega,0,rfl⟩
theorem yZ(r n)(N:mZ r n):mZ r (n+1):=by
 intro k w ag O;have bU:k<=14:=xaa;have bM:1<=k:=xaa;have ad:V (k=15-((n+1:Nat):Int)):=O;clear O;have F:=@oA prog;have h2:=@l9 prog;have h3:=@kr prog;go_enter func105,ntmps105;go_wp2_with fail;refine(N _ _ xaa (ix ad.o)).mono ?_;rintro e B ⟨y,rfl,bp,hlt,m,rfl⟩;go_wp2;go_ret;exact⟨_,rfl,tQ k _ _ _ (ix ad.o) bp rfl,gF _ _ _ _,_,rfl⟩
theorem FA(r):∀n,mZ r n
 |0=>yY r
 |n+1=>yZ r n (FA r n)
def sF(x:Nat):Nat:=
 if FloatKind.f64.format.order x x !=some .eq then x
 else if FloatKind.f64.format.order x 4652007308841189376==some .gt then 9218868437227405312
 else if FloatKind.f64.format.order x 13875379345695965184==some .lt then 0
 else csq (sE (cop .quo x 4652218415073722368) 14) 10
theorem pQ{r a}(h:fb r=fb a):∀n,fb (sE r n)=fb (sE a n)
 |0=>rfl
 |n+1=>by
  unfold sE
  congr 1
  refine gn _ ?_ rfl
  congr 1
  refine gn _ ?_ rfl
  congr 1
  exact gn _ h (pQ h n)
theorem xu{c y q k w}(h:fb y=fb (csq c k))(aA:q=fop .mul y y w):fb q=fb (csq c (k+1)):=by
 subst aA;rw[fV];unfold csq;congr 1;exact gn _ h h
theorem JJ(x w)(ap:x<18446744073709551616):
  Calls prog 90 #[.float .f64 x] w λe B=>∃y,e=.returned (.float .f64 y)/\fb y=fb (sF x)/\y<18446744073709551616/\∃m,B=w.drewN m:=by
 unfold sF;cases F:(FloatKind.f64.format.order x x !=some .eq)
 ·cases h2:(FloatKind.f64.format.order x 4652007308841189376==some .gt)
  ·cases h3:(FloatKind.f64.format.order x 13875379345695965184==some .lt)
   ·simp only[Bool.false_eq_true,if_false];have aA:(binOp .quo 45 (.float .f64 x) (.float .f64 4652218415073722368)).run prog w=.ok (.float .f64 (fop .quo x 4652218415073722368 w)) (w.drewN (fnd .quo x 4652218415073722368)):=kr w 45 _ _;have aw:=fV .quo x 4652218415073722368 w;have a:=pQ aw 14;clear aw;generalize fop .quo x 4652218415073722368 w=r at aA a;generalize fnd .quo x 4652218415073722368=cF at aA;generalize sE (cop .quo x 4652218415073722368) 14=c at a⊢;go_enter func90,ntmps90;go_wp2_with fail;refine(oX _ _).mono ?_;rintro e B ⟨rfl,rfl⟩;go_wp2_with fail;refine(FA _ 14 _ _ xaa xaa).mono ?_;rintro e B ⟨y,rfl,bp,hlt,m,rfl⟩;have bo:=bp.trans a;clear aA bp a F h2 h3;have h2:=@l9 prog;go_wp2_with fail;go_loopw [4,5] (λp i W=>∃k U g,k<=10/\i=h1 (k:Nat)/\p=.float .f64 U/\fb U=fb (csq c k)/\U<18446744073709551616/\W=B.drewN g) (λ_ i _=>10-(intOf i).toNat)
    case atStart=>exact⟨0,y,_,by omega,rfl,rfl,bo,hlt,rfl⟩
    case round=>
     obtain⟨k,U,g,O,rfl,rfl,ba,ai,rfl⟩:=hrel;by_cases b:k<10
     ·go_wp2;go_roundw;exact⟨k+1,_,_,by omega,by go_num,rfl,xu ba rfl,gF _ _ _ _,rfl⟩;simp[intOf];omega
     exact xip
   simp only[Bool.false_eq_true,if_false,if_true];exact xfq
  simp only[Bool.false_eq_true,if_false,if_true];have h4:=xr;exact xfq
 simp only[if_true];go_enter func90,ntmps90;go_wp2_with fail;refine(oX _ _).mono ?_;exact xiq
theorem JK(w):Calls prog 177 #[h1 1] w λe B=>e=.returned (.float .f64 9218868437227405312)/\B=w:=by
 have al:=Fx;go_enter func177,ntmps177;go_wp2;go_ret;exact⟨rfl,rfl⟩
theorem JL(x w)(ap:x<18446744073709551616):
  Calls prog 176 #[.float .f64 x] w λe B=>∃y,e=.returned (.float .f64 y)/\fb y=fb (sF x)/\y<18446744073709551616/\∃m,B=w.drewN m:=by
 unfold sF;cases F:(FloatKind.f64.format.order x x !=some .eq)
 ·cases h2:(FloatKind.f64.format.order x 4652007308841189376==some .gt)
  ·cases h3:(FloatKind.f64.format.order x 13875379345695965184==some .lt)
   ·simp only[Bool.false_eq_true,if_false];have aw:=fV .quo x 4652218415073722368 w;have a:=pQ aw 14;clear aw;generalize sE (cop .quo x 4652218415073722368) 14=c at a⊢;go_enter func176,ntmps176;go_wp2_with fail;refine(oY _ _).mono ?_;rintro e B ⟨rfl,rfl⟩;go_wp2_with fail;refine(tP _ _ _).mono ?_;rintro e ax ⟨rfl,rfl⟩;clear F h2 h3;generalize fop .quo x 4652218415073722368 B=r at a⊢;generalize fnd .quo x 4652218415073722368=cF;go_wp2_with fail;go_loopw [4,5] (λp i W=>∃k U g,k<=14/\i=h1 (14-(k:Nat))/\p=.float .f64 U/\fb U=fb (sE r k)/\U<18446744073709551616/\W=B.drewN g) (λ_ i _=>(intOf i).toNat)
    case atStart=>exact⟨0,_,_,by omega,rfl,rfl,rfl,by omega,rfl⟩
    case round=>
     obtain⟨k,U,g,O,rfl,rfl,ba,ai,rfl⟩:=hrel;by_cases hlt:k<14
     ·go_wp2_with fail;refine(rz _ _ _).mono ?_;rintro e ax ⟨rfl,rfl⟩;go_wp2_with fail;refine(tP _ _ _).mono ?_;rintro e ax ⟨rfl,rfl⟩;go_wp2_with fail;refine(yX _ _ _).mono ?_;rintro e ax ⟨rfl,rfl⟩;go_wp2;go_roundw
      case rel=>first|exact⟨k+1,_,_,by omega,by go_num,rfl,tQ (14-(k:Int)) _ _ _ rfl ba rfl,gF _ _ _ _,rfl⟩|((repeat apply Exists.intro);exact⟨⟨k+1,_,_,by omega,by go_num,rfl,tQ (14-(k:Int)) _ _ _ rfl ba rfl,gF _ _ _ _,rfl⟩,rfl⟩)
      case measure=>simp[intOf];omega
     obtain rfl:k=14:=xaa;have al:=ba.trans a;clear ba a;go_wp2_with fail;go_loopw [4,29] (λp i W=>∃k U g,k<=10/\i=h1 (k:Nat)/\p=.float .f64 U/\fb U=fb (csq c k)/\U<18446744073709551616/\W=B.drewN g) (λ_ i _=>10-(intOf i).toNat)
     case atStart=>exact⟨0,_,_,by omega,rfl,rfl,al,ai,rfl⟩
     case round=>
      obtain⟨k,f,d,O,rfl,rfl,ba,ai,rfl⟩:=hrel;by_cases b:k<10
      ·go_wp2_with fail;refine(rz _ _ _).mono ?_;rintro e ax ⟨rfl,rfl⟩;go_wp2;go_roundw
       case rel=>first|exact⟨k+1,_,_,by omega,by go_num,rfl,xu ba rfl,gF _ _ _ _,rfl⟩|((repeat apply Exists.intro);exact⟨⟨k+1,_,_,by omega,by go_num,rfl,xu ba rfl,gF _ _ _ _,rfl⟩,rfl⟩)
       case measure=>simp[intOf];omega
      exact xip
   simp only[Bool.false_eq_true,if_false,if_true];go_enter func176,ntmps176;go_wp2_with fail;refine(oY _ _).mono ?_;exact xef
  simp only[Bool.false_eq_true,if_false,if_true];go_enter func176,ntmps176;go_wp2_with fail;refine(oY _ _).mono ?_;rintro e B ⟨rfl,rfl⟩;go_wp2_with fail;refine(JK _).mono ?_;exact xef
 simp only[if_true];go_enter func176,ntmps176;go_wp2_with fail;refine(oY _ _).mono ?_;exact xiq
