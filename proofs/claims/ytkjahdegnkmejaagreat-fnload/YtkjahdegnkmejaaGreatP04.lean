import Derived.Test.YtkjahdegnkmejaaGreatP01
namespace Go.Proofs.Z
variable{Zp:Prop}
open Tryz Go.RowKit Flt
set_option maxRecDepth 1000000
set_option maxHeartbeats 0
section
attribute[local go_sem] eE eC eB
variable{aK w F a7 O:World}{S:Nat->Prop}{base e lo g p hi lo' m n l hi' h an:Nat}{xs ins:List Int}{bE R a6 u:Value}
theorem mH{W}(h:Kept 0 0 w W){o}(az:g<w.heap.size){v}(ai:w.cell? ⟨g,o,none⟩=some v):W.cell? ⟨g,o,none⟩=some v:=by
 rw[h.cell az xaa];exact ai
structure Vl where
 op:Int
 len:Int
 a:Int
 b:Int
 c:Int
 k:Nat
def Vl.cells(v:Vl):List Value:=[.int .i64 v.op,.int .i64 v.len,.int .i64 v.a,.int .i64 v.b,.int .i64 v.c,.float .f64 v.k]
def i0:Vl:=⟨0,0,0,0,0,0⟩
abbrev Vl.agg(v:Vl):Value:=qL v.op v.len v.a v.b v.c v.k
structure At(w:World)(g o:Nat)(v:Vl):Prop where
 c0:w.cell? ⟨g,o,none⟩=some (.int .i64 v.op)
 c1:w.cell? ⟨g,o+1,none⟩=some (.int .i64 v.len)
 c2:w.cell? ⟨g,o+2,none⟩=some (.int .i64 v.a)
 c3:w.cell? ⟨g,o+3,none⟩=some (.int .i64 v.b)
 c4:w.cell? ⟨g,o+4,none⟩=some (.int .i64 v.c)
 c5:w.cell? ⟨g,o+5,none⟩=some (.float .f64 v.k)
theorem yo:(prog.info? 79).map (λi=>(i.zero,i.size,i.bytes))=some (some (qL 0 0 0 0 0 0),6,48):=by kernel_rfl
structure VA(w:World)(g n:Nat)(vs:List Vl):Prop where
 len:vs.length=n
 lt:g<w.heap.size
 at_:∀k,k<n->At w g (k*6) (vs.getD k i0)
 free:∀o,w.frozen? ⟨g,o,none⟩=false
theorem eG(w:World)(g aI a b v)(h:g≠aI\/a≠b):(w.setCell ⟨g,a,none⟩ v).cell? ⟨aI,b,none⟩=w.cell? ⟨aI,b,none⟩:=
 World.cell?_setCell_other w ⟨g,a,none⟩ ⟨aI,b,none⟩ v (by grind)
theorem fc(w:World)(g a v u)(h:w.cell? ⟨g,a,none⟩=some u):(w.setCell ⟨g,a,none⟩ v).cell? ⟨g,a,none⟩=some v:=World.cell?_setCell_same w ⟨g,a,none⟩ v h
theorem At.keep{o v}(a:At w g o v)(az:g<w.heap.size)(k:Kept l h w O)(aN:g<l\/h<=g\/h<=l):At O g o v:=by
 have e:∀b,_:=λb=>k.cell (p:=⟨g,b,none⟩) az (by grind);exact⟨jn e a.c0,jn e a.c1,jn e a.c2,jn e a.c3,jn e a.c4,jn e a.c5⟩
theorem VA.keep{vs}(f:VA w g n vs)(k:Kept l h w O)(aN:g<l\/h<=g\/h<=l):VA O g n vs:=
 ⟨f.len,yak f.lt k.size,λi hi=>(f.at_ i hi).keep f.lt k aN,λo=>by rw[k.frozen f.lt (by grind)];exact f.free o⟩
structure VS(w:World)(lo hi:Nat)(a:Option Addr)(n:Nat)(vs:List Vl):Prop where
 len:vs.length=n
 lt:∀v∈vs,v.k<18446744073709551616
 at_:n=0\/∃g off,a=some ⟨g,off,none⟩/\lo<=g/\g<hi/\g<w.heap.size/\∀k,k<n->At w g (off+k*6) (vs.getD k i0)
theorem VS.keep{a vs}(f:VS w lo hi a n vs)(k:Kept l h w O)(aN:hi<=l\/h<=lo\/h<=l):VS O lo hi a n vs:=
 ⟨f.len,f.lt,by
  rcases f.at_ with aj|⟨g,an,e,B,N,h3,bp⟩
  ·exact .inl aj
  ·exact .inr ⟨g,_,e,B,N,yak h3 k.size,λj hj=>(bp j hj).keep h3 k xaa⟩⟩
theorem VA.vs{vs}(f:VA w g n vs)(ag:∀v∈vs,v.k<18446744073709551616):VS w 0 w.heap.size (some ⟨g,0,none⟩) n vs:=
 ⟨f.len,ag,.inr ⟨g,0,rfl,yae,f.lt,f.lt,λk J=>by rw[Nat.zero_add];exact f.at_ k J⟩⟩
def IR(w:World)(g:Nat)(xs:List Int):Prop:=w.heap[g]? =some (.cells (xs.map (Value.int .i64)).toArray 3 (0,0))
theorem IR.lt(h:IR w g xs):g<w.heap.size:=by
 grind[IR]
theorem IR.cell(h:IR w g xs)(k)(J:k<xs.length):w.cell? ⟨g,k,none⟩=some (ih (xs.getD k 0)):=by
 rw[cell_of_row w g k _ _ _ h];grind
theorem IR.free(h:IR w g xs)(k):w.frozen? ⟨g,k,none⟩=false:=frozen_of_row w g k _ _ h
theorem IR.keep(f:IR w g xs)(k:Kept l h w O)(aN:g<l\/h<=g\/h<=l):IR O g xs:=by
 unfold IR;rw[k.block g f.lt xaa];exact f
theorem IR.set(h:IR w g xs)(k x):IR (w.setCell ⟨g,k,none⟩ (ih x)) g (xs.set k x):=by
 unfold IR at h⊢;rw[heap_setCell_same w g k _ _ _ h];simp[List.map_set]
theorem IR.made(w:World)(n):IR (w.alloc (.cells (madeCells #[ih 0] n) 3)) w.heap.size (List.replicate n 0):=by
 unfold IR;rw[heap_alloc_new]
 have:(madeCells #[ih 0] n)=(List.map (Value.int .i64) (List.replicate n 0)).toArray:=by
  apply Array.toList_inj.1;rw[toList_madeCells_one];simp
 rw[this]
theorem qd:(prog.info? 3).map (λi=>(i.zero,i.size,i.bytes))=some (some (ih 0),1,8):=by kernel_rfl
theorem EN(n:Nat)(w)(hn:n<=1099511627776):
  (Instr.makeSlice 24 (ih n) (ih n)).run prog w=.ok (ia w.heap.size n n) (w.alloc (.cells (madeCells #[ih 0] n) 3)):=by
 obtain⟨i,hi,cg,b8,cc⟩:=info_parts qd;have:=run_make w 24 3 i _ underlying24 hi cg .i64 .i64 n n xaa xaa (by grind) xaa;exact qcr
theorem IY{vs:List Vl}(h:∀v∈vs,v.k<18446744073709551616)(k):(vs.getD k i0).k<18446744073709551616:=by
 rw[yai];by_cases J:k<vs.length
 ·simp_all
 rw[List.getElem?_eq_none xaa];exact(by decide:i0.k<18446744073709551616)
abbrev eX(a1:Option Addr)(n1 c1:Nat)(a2:Option Addr)(n2 c2:Nat)(a3:Option Addr)(n3 c3:Nat):Value:=.agg #[.slice a1 n1 c1,.slice a2 n2 c2,.slice a3 n3 c3]
structure GS(w:World)(a1:Option Addr)(n1:Nat)(a2:Option Addr)(n2:Nat)(a3:Option Addr)(n3:Nat)(ins:List Int)(vs:List Vl)(outs:List Int):Prop where
 i:IS w 0 w.heap.size a1 n1 ins
 v:VS w 0 w.heap.size a2 n2 vs
 o:IS w 0 w.heap.size a3 n3 outs
theorem IS.mono{a}(f:IS w lo hi a n xs)(B:lo'<=lo)(N:hi<=hi'):IS w lo' hi' a n xs:=
 ⟨f.len,by
  rcases f.at_ with aj|⟨g,an,e,a1,K,a3,a4⟩<;>grind⟩
theorem VS.mono{a vs}(f:VS w lo hi a n vs)(B:lo'<=lo)(N:hi<=hi'):VS w lo' hi' a n vs:=
 ⟨f.len,f.lt,by
  rcases f.at_ with aj|⟨g,an,e,a1,K,a3,a4⟩<;>grind⟩
theorem GS.keep{a1 K a3 Y ae aa vs outs}(f:GS w a1 Y K ae a3 aa ins vs outs)(k:Kept 0 0 w O):GS O a1 Y K ae a3 aa ins vs outs:=
 ⟨(f.i.keep k yaa).mono yad k.size,(f.v.keep k yaa).mono yad k.size,(f.o.keep k yaa).mono yad k.size⟩
theorem fy(w g x y z):Kept g (g+1) w (((w.setCell ⟨g,0,none⟩ x).setCell ⟨g,1,none⟩ y).setCell ⟨g,2,none⟩ z):=by
 have k:∀(w:World) (a:Nat) (u:Value),Kept g (g+1) w _:=λw a u=>eU w ⟨g,a,none⟩ u yac;exact((k _ _ _).trans (k _ _ _)).trans (k _ _ _)
theorem sO(w W)(k:Kept 0 0 w W)(g o v)(h:w.heap.size<=g):Kept 0 0 w (W.setCell ⟨g,o,none⟩ v):=
 k.new (eU (lo:=g) (hi:=g+1) W ⟨g,o,none⟩ v yac) h
def gH(op:Int):Bool:=decide (op=11\/op=12)
theorem EO(op w):Calls prog 75 #[ih op] w λe O=>e=.returned (.bool (gH op))/\O=w:=by
 by_cases B:op=11
 ·subst B;exact xgq
 by_cases N:op=12
 ·subst N;exact xgq
 rw[show gH op=false from yay xaa];have aW:(op==11)=false:=yan B;have bd:(op==12)=false:=yan N;clear B N;exact xgq
def fL(v:Vl):Bool:=!(((decide (cnt v.op<1)&&v.op !=0)&&v.a !=0)||(decide (cnt v.op<2)&&v.b !=0)||((decide (cnt v.op<3)&&!gH v.op)&&v.c !=0))
theorem Cz(w op len A I C bA n)(hn:n<=3)(p)(bi:V (∀w,Calls prog 51 #[ih op] w λe O=>e=.returned (ih (n:Nat))/\O=w))
  (b1:V (∀w,Calls prog 75 #[ih op] w λe O=>e=.returned (.bool p)/\O=w)):
  Calls prog 50 #[qL op len A I C bA] w λe O=>e=.returned (.bool (!(((decide (n<1)&&op !=0)&&A !=0)||(decide (n<2)&&I !=0)||((decide (n<3)&&!p)&&C !=0))))/\Kept 0 0 w O:=by
 rcases (by omega:n=0\/n=1\/n=2\/n=3) with rfl|rfl|rfl|rfl
 all_goals
  go_enter func50,ntmps50
  go_wp2_with (first|(go_at_call 51;refine(bi.o _).mono ?_;rintro e ak ⟨rfl,rfl⟩)|(go_at_call 75;refine(b1.o _).mono ?_;rintro e ak ⟨rfl,rfl⟩))
  all_goals
   go_ret
   exact⟨by simp_all,eA _ _ _ _⟩
theorem yp(w v):Calls prog 50 #[v.agg] w λe O=>e=.returned (.bool (fL v))/\Kept 0 0 w O:=
 Cz w v.op v.len v.a v.b v.c v.k (cnt v.op) (io _) (gH v.op) (λw=>vX _ w) (λw=>EO _ w)
def fp(v:Vl):List Int:=[v.a,v.b,v.c].take (cnt v.op)
theorem CA(v):(fp v).length=cnt v.op:=by
 have:=io v.op;simp[fp];omega
def okV(ins:List Int)(vs:List Vl)(i:Nat):Bool:=
 (lenB (vs.getD i i0).len&&fL (vs.getD i i0))&&
  (if (vs.getD i i0).op=0 then gn (vs.getD i i0).a ins.length&&(vs.getD i i0).len==ins.getD (vs.getD i i0).a.toNat 0
   else (fp (vs.getD i i0)).all (gn · i)&&eV (vs.getD i i0).op (vs.getD i i0).len (vs.getD i i0).c ((fp (vs.getD i i0)).map λo=>(vs.getD o.toNat i0).len))
abbrev fB(a1:Option Addr)(n1 c1:Nat)(a2:Option Addr)(n2 c2:Nat)(a3:Option Addr)(n3 c3:Nat):Obj:=.cells #[.slice a1 n1 c1,.slice a2 n2 c2,.slice a3 n3 c3] 73
structure GB(W:World)(p:Nat)(b0 b1 b2:Value)(v:Vl):Prop where
 sz:p+1<W.heap.size
 q0:W.cell? ⟨p,0,none⟩=some b0
 q1:W.cell? ⟨p,1,none⟩=some b1
 q2:W.cell? ⟨p,2,none⟩=some b2
 vt:At W (p+1) 0 v
theorem GB.keep{W v}(t:GB W p bE R a6 v)(k:Kept 0 0 W F):GB F p bE R a6 v:=by
 have e:∀g o,g<=p+1->_:=λg o h=>k.cell (p:=⟨g,o,none⟩) (Nat.lt_of_le_of_lt h t.sz) xaa;exact⟨yak t.sz k.size,by rw[e _ _ xaa];exact t.q0,by rw[e _ _ xaa];exact t.q1,by rw[e _ _ xaa];exact t.q2,t.vt.keep t.sz k yaa⟩
theorem yq(w:World)(bE R a6 v):GB ((w.alloc (.cells #[bE,R,a6] 73)).alloc (iK v.op v.len v.a v.b v.c v.k)) w.heap.size bE R a6 v:=by
 have B:(w.alloc (.cells #[bE,R,a6] 73)).heap.size=w.heap.size+1:=by simp
 refine⟨?_,?_,?_,?_,?_,?_,?_,?_,?_,?_⟩;all_goals first|(go_simp;done)|(simp;done)
theorem qN{p k}(J:k<xs.length)(h:(xs.take k).all p=true)(t:p (xs.getD k 0)=true):(xs.take (k+1)).all p=true:=by
 exact xea
theorem sP{p k}(J:k<xs.length)(t:p (xs.getD k 0)=false):xs.all p=false:=by
 rw[yai,yam J]at t;rw[List.all_eq_false];exact⟨_,List.getElem_mem _,by simpa using t⟩
def eY:List Vl->Int
 |[]=>0
 |v::vs=>v.len+eY vs
def okG(ins:List Int)(vs:List Vl)(outs:List Int):Bool:=
 decide (ins.length<=20/\vs.length<=2000/\outs.length<=50)&&(ins.all lenB&&((List.range vs.length).all (okV ins vs)&&(outs.all (gn · vs.length)&&decide (eY vs<=50000))))
theorem ut(xs v):eY (xs++[v])=eY xs+v.len:=by
 induction xs<;>grind[eY]
theorem nT{vs:List Vl}{k}(J:k<vs.length):eY (vs.take (k+1))=eY (vs.take k)+(vs.getD k i0).len:=by
 rw[yau J,ut,yai,yam J];rfl
theorem iL{p k}(h:(List.range k).all p=true)(t:p k=true):(List.range (k+1)).all p=true:=by
 rw[List.range_succ,List.all_append,h];simpa using t
theorem jc{p k}(J:k<n)(t:p k=false):(List.range n).all p=false:=by
 rw[List.all_eq_false];exact⟨k,List.mem_range.2 J,by simpa using t⟩
theorem fV{vs i}(h:okV ins vs i=true):1<=(vs.getD i i0).len/\(vs.getD i i0).len<=1000:=by
 unfold okV at h;rw[Bool.and_eq_true,Bool.and_eq_true]at h;exact of_decide_eq_true h.1.1
structure G0(W:World)(p:Nat)(b0 b1 b2:Value):Prop where
 sz:p<W.heap.size
 q0:W.cell? ⟨p,0,none⟩=some b0
 q1:W.cell? ⟨p,1,none⟩=some b1
 q2:W.cell? ⟨p,2,none⟩=some b2
theorem G0.keep{W}(t:G0 W p bE R a6)(k:Kept 0 0 W F):G0 F p bE R a6:=
 ⟨yak t.sz k.size,mH k t.sz t.q0,mH k t.sz t.q1,mH k t.sz t.q2⟩
theorem ib(w:World)(bE R a6):G0 (w.alloc (.cells #[bE,R,a6] 73)) w.heap.size bE R a6:=by
 refine⟨?_,?_,?_,?_⟩;all_goals first|(go_simp;done)|(simp;done)
structure Chg(S:Nat->Prop)(w w':World):Prop where
 os:w'.os=w.os
 tape:w'.tape=w.tape
 output:w'.output=w.output
 size:w.heap.size<=w'.heap.size
 block:∀k,k<w.heap.size->¬S k->w'.heap[k]? =w.heap[k]?
theorem Chg.cell(h:Chg S w O){p}(aA:p.block<w.heap.size)(hn:¬S p.block):O.cell? p=w.cell? p:=World.cell?_of_block (w:=w) (h.block p.block aA hn)
theorem Chg.frozen(h:Chg S w O){p}(aA:p.block<w.heap.size)(hn:¬S p.block):O.frozen? p=w.frozen? p:=World.frozen?_of_block (w:=w) (h.block p.block aA hn)
theorem Kept.chg(h:Kept 0 0 w O):Chg S w O:=⟨h.os,h.tape,h.output,h.size,λk J _=>h.block k J xaa⟩
theorem Chg.kept{w0}(k:Kept 0 0 w0 w)(h:Chg S w O)(a5:∀i,S i->w0.heap.size<=i):Kept 0 0 w0 O:=
 ⟨h.os.trans k.os,h.tape.trans k.tape,h.output.trans k.output,yao k.size h.size,λi hi _=>(h.block i (yak hi k.size) (λc=>by grind)).trans (k.block i hi xaa)⟩
def fU:List Vl->List Value
 |[]=>[]
 |v::r=>v.cells++fU r
theorem mi(a b):fU (a++b)=fU a++fU b:=by
 induction a<;>grind[fU]
theorem qe(v):fU [v]=v.cells:=by simp[fU]
theorem yr(a):(fU a).length=a.length*6:=by
 induction a<;>grind[fU,yaq,Vl.cells]
theorem wj:∀(a:List Vl) (k j:Nat),k<a.length->j<6->(fU a)[k*6+j]? =(a.getD k i0).cells[j]?
 |[],k,j,J,_=>by simp at J
 |x::r,0,j,_,hj=>by
  grind[fU,Vl.cells]
 |x::r,k+1,j,J,hj=>by
  have:(x::r).getD (k+1) i0=r.getD k _:=rfl
  rw[this,fU,yas (by grind[Vl.cells,yaq])]
  have e:(k+1)*6+j-x.cells.length=k*6+j:=by grind[Vl.cells]
  rw[e]
  exact wj r k j (by grind) hj
theorem mV{W v vs}(h:W.ownsRow base 79 6 v n (fU vs))(hn:0<n)(ag:vs.length=n):
  ∃g cap,v=ia g n cap/\base<=g/\g<W.heap.size/\n<=cap/\VA W g n vs:=by
 rcases h.2 with⟨_,c⟩|⟨g,cap,ao,rfl,R,a6,U,_,ct,b2⟩
 ·omega
 have az:g<W.heap.size:=by grind
 have G:∀k j,k<n->j<6->W.cell? _=(vs.getD k _).cells[j]?:=λk j J hj=>by
  rw[cell_of_row W g _ _ _ _ a6,<-Array.getElem?_toList]
  have:(ao.toList.take (n*6))[k*6+j]? =(fU vs)[k*6+j]?:=by rw[b2]
  rw[List.getElem?_take_of_lt xaa]at this
  rw[this]
  exact wj vs k j xaa hj
 refine⟨g,_,rfl,R,az,U,ag,az,λk J=>?_,λo=>frozen_of_row W g o _ _ a6⟩;exact⟨G k 0 J xaa,G k 1 J xaa,G k 2 J xaa,G k 3 J xaa,G k 4 J xaa,G k 5 J xaa⟩
structure StQ(Q:Nat->Prop)(R:Option Nat)(w:World)(R':Option Nat)(w':World):Prop where
 chg:Chg (λi=>Q i\/R=some i) w w'
 row:R'=R\/∃r,R'=some r/\w.heap.size<=r
theorem StQ.refl(Q H w):StQ Q H w H w:=⟨⟨rfl,rfl,rfl,yad,λ_ _ _=>rfl⟩,.inl rfl⟩
theorem eF{size v xs}{W:World}(h:W.ownsRow base e size v n xs){k}(J:v.ownBlock=some k):base<=k/\k<W.heap.size:=by
 rcases h.2 with⟨rfl,_⟩|⟨g,cap,ao,rfl,R,a6,_⟩<;>grind[Value.ownBlock]
theorem qf(w:World)(v):At (w.alloc (iK v.op v.len v.a v.b v.c v.k)) w.heap.size 0 v:=by
 exact xjg
theorem kN{size v xs}{W:World}(h:W.ownsRow base e size v n xs)(m o):((W.alloc o).drewN m).ownsRow base e size v n xs:=h.alloc o
theorem nU(w:World)(o):(w.alloc o).heap[w.heap.size]? =some o:=by
 unfold World.alloc;simp
theorem Bw(w:World)(v:Vl)(m):∀j u,v.cells[j]? =some u->((w.alloc (.cells #[ih v.op,ih v.len,ih v.a,ih v.b,ih v.c,.float .f64 v.k] 79)).drewN m).cell? ((⟨w.heap.size,0,none⟩:Addr).add j)=some u:=λj u G=>
 World.news_of_block (w:=w.alloc (.cells #[ih v.op,ih v.len,ih v.a,ih v.b,ih v.c,.float .f64 v.k] 79)) (t:=79) (fr:=(0,0)) (cs:=#[ih v.op,ih v.len,ih v.a,ih v.b,ih v.c,.float .f64 v.k]) (nU _ _) j u G
theorem jS{o j}(az:((aK.alloc o).drewN m).grownBy a7 j){b}(hb:b<aK.heap.size)(au:j≠some b)(ai:aK.cell? ⟨b,an,none⟩=some u):a7.cell? ⟨b,an,none⟩=some u:=by
 have K:b<((aK.alloc o).drewN m).heap.size:=by show b<(aK.alloc o).heap.size;simp;omega
 rw[az.cell_far _ K (λc=>au c.symm)];exact mH (eA 0 0 _ o) hb ai
theorem far2{o j}(az:((aK.alloc o).drewN m).grownBy a7 j){b}(hb:b<aK.heap.size)(au:j≠some b)(ai:aK.frozen? ⟨b,an,none⟩=false):a7.frozen? ⟨b,an,none⟩=false:=by
 have K:b<((aK.alloc o).drewN m).heap.size:=by show b<(aK.alloc o).heap.size;simp;omega
 rw[az.frozen_far _ K (λc=>au c.symm)];show(aK.alloc o).frozen? _=_;rw[(eA 0 0 _ o).frozen hb xaa];exact ai
theorem eH{size P o v xs}{W:World}(h:W.ownsRow base e size v n xs)(hP:v.ownBlock≠some P):(W.setCell ⟨P,o,none⟩ u).ownsRow base e size v n xs:=by
 refine⟨h.1,h.2.imp id ?_⟩;rintro⟨g,cap,ao,ad,R,a6,U⟩;refine⟨g,_,_,ad,R,?_,U⟩;rw[Below.heap_setCell W _ u g (λc=>hP (by rw[ad,c];rfl))];exact a6
theorem EP(v:Vl):∀u∈v.cells,u.oneCell'=true:=λu G=>by
 simp only[Vl.cells,List.mem_cons,List.not_mem_nil,or_false]at G
 rcases G with rfl|rfl|rfl|rfl|rfl|rfl<;>rfl
end
section
variable{ins outs:List Int}{v:Vl}{us vs:List Vl}{i:Nat}
theorem AA(x):fb (fb x)=fb x:=by
 cases h:(f64.read x).isNaN
 ·rw[qK h,qK h]
 rw[oF h];decide
theorem fb_zero:fb 0=0:=xab
def cv(v:Vl):Vl:=⟨v.op,v.len,v.a,v.b,v.c,fb v.k⟩
def Lk(us vs:List Vl):Prop:=us.map cv=vs.map cv
theorem cv_zero:cv i0=i0:=by simp[cv,i0,fb_zero]
theorem kX(vs:List Vl)(k):(vs.map cv).getD k i0=cv (vs.getD k i0):=by
 rw[yai,yai,List.getElem?_map];cases vs[k]? with
 |none=>exact cv_zero.symm
 |some x=>rfl
theorem Lk.len(h:Lk us vs):us.length=vs.length:=by
 have:=congrArg List.length h;simpa using this
theorem Mw(ins vs i):okV ins (vs.map cv) i=okV ins vs i:=by
 unfold okV;rw[kX];have e:∀o:Int,((vs.map cv).getD _ _).len=(vs.getD o.toNat _).len:=λo=>by rw[kX];rfl
 simp only[e];rfl
theorem CB(vs):eY (vs.map cv)=eY vs:=by
 induction vs with
 |nil=>rfl
 |cons v r Z=>simp[eY,Z,cv]
theorem ER(ins vs outs):okG ins (vs.map cv) outs=okG ins vs outs:=by
 unfold okG;rw[CB,List.length_map];have:=funext (Mw ins vs);rw[this]
theorem Lk.okG(h:Lk us vs):okG ins us outs=okG ins vs outs:=by
 rw[<-ER _ _,<-ER _ vs,h]
theorem My{j}(h:okV ins vs i=true)(r)(co:(us.getD j i0).op=(vs.getD i i0).op)(a6:(us.getD j i0).len=(vs.getD i i0).len)
  (aB:cnt (vs.getD i i0).op<1->(us.getD j i0).a=(vs.getD i i0).a) (hb:cnt (vs.getD i i0).op<2->(us.getD j i0).b=(vs.getD i i0).b) (ai:cnt (vs.getD i i0).op<3->(us.getD j i0).c=(vs.getD i i0).c)
  (S:fp (us.getD j i0)=(fp (vs.getD i i0)).map r) (au:∀o∈fp (vs.getD i i0),0<=o->o<i->(0<=r o/\r o<j)/\(us.getD (r o).toNat i0).len=(vs.getD o.toNat i0).len):okV ins us j=true:=by
 unfold okV at h⊢;generalize us.getD j _=u at*;generalize vs.getD i _=v at*;rw[Bool.and_eq_true,Bool.and_eq_true]at h;obtain⟨⟨B,N⟩,h3⟩:=h;have aT:fL u=true:=by grind[fL]
 rw[a6,B,aT,co];simp only[Bool.true_and];by_cases aj:v.op=0
 ·grind[cnt]
 rw[ip aj]at h3⊢;rw[Bool.and_eq_true]at h3⊢
 have G:∀o∈fp v,(0<=r o/\r o<j)/\(us.getD _ _).len=(vs.getD o.toNat _).len:=λo aR=>by
  have:=of_decide_eq_true (List.all_eq_true.1 h3.1 o aR)
  exact au o aR this.1 this.2
 rw[S];refine⟨?_,?_⟩
 ·rw[List.all_map,List.all_eq_true];intro o aR;exact decide_eq_true (G o aR).1
 have e:((fp v).map r).map (λo=>(us.getD o.toNat i0).len)=(fp v).map λo=>(vs.getD o.toNat i0).len:=by
  rw[List.map_map];apply List.map_congr_left;intro o aR;exact(G o aR).2
 grind[cnt,eV]
theorem rS(hi:i<vs.length)(h:okV ins vs i=true):okV ins (vs++[v]) i=true:=by
 have e:∀k,k<vs.length->(vs++[v]).getD k i0=vs.getD k i0:=λk J=>by
  rw[yai,yat J,<-yai]
 refine My h id ?_ ?_ ?_ ?_ ?_ ?_ ?_
 ·rw[e i hi]
 ·rw[e i hi]
 ·intro _;rw[e i hi]
 ·intro _;rw[e i hi]
 ·intro _;rw[e i hi]
 ·rw[e i hi];simp
 intro o _ aj B;refine⟨⟨aj,B⟩,?_⟩;rw[e _ (by simp only[id];omega)];rfl
theorem rT(h:okV ins vs i=true):∀o∈fp (vs.getD i i0),0<=o/\o<i:=by
 intro o aR;unfold okV at h;generalize vs.getD i _=v at*;rw[Bool.and_eq_true]at h;have h3:=h.2;by_cases aj:v.op=0
 ·have c0:cnt v.op=0:=by rw[aj];rfl
  unfold fp at aR;rw[c0]at aR;simp at aR
 rw[ip aj,Bool.and_eq_true]at h3;exact of_decide_eq_true (List.all_eq_true.1 h3.1 o aR)
theorem rU(h:1<=cnt v.op):v.a∈fp v:=by
 have:=io v.op;unfold fp;rcases (by omega:cnt v.op=1\/cnt v.op=2\/cnt v.op=3) with e|e|e<;>simp[e]
theorem wk(h:2<=cnt v.op):v.b∈fp v:=by
 have:=io v.op;unfold fp;rcases (by omega:cnt v.op=2\/cnt v.op=3) with e|e<;>simp[e]
theorem wm(h:3<=cnt v.op):v.c∈fp v:=by
 have:=io v.op;unfold fp;simp[(by omega:cnt v.op=3)]
theorem jZ(h:okG ins vs outs=true):(ins.length<=20/\vs.length<=2000/\outs.length<=50)/\ins.all lenB=true/\(∀j,j<vs.length->okV ins vs j=true)/\(∀o∈outs,0<=o/\o<vs.length)/\eY vs<=50000:=by
 unfold okG at h;simp only[Bool.and_eq_true]at h;obtain⟨B,N,h3,bp,bU⟩:=h;exact⟨of_decide_eq_true B,N,λj hj=>List.all_eq_true.1 h3 j (List.mem_range.2 hj),λo aR=>of_decide_eq_true (List.all_eq_true.1 bp o aR),of_decide_eq_true bU⟩
theorem sQ(h:okV ins vs i=true):lenB (vs.getD i i0).len=true:=by
 grind[okV]
def isO(outs:List Int)(i:Nat):Bool:=outs.any λo=>o==(i:Int)
end
section
attribute[local go_sem] eE eC eB
variable{S:Nat->Prop}{base g e size p n d:Nat}{w O F:World}{a b:Option Addr}{bE R a6 v:Value}{xs:List Value}
structure IBk(w:World)(g n:Nat)(xs:List Int):Prop where
 len:xs.length=n
 lt:g<w.heap.size
 at_:∀k,k<n->w.cell? ⟨g,k,none⟩=some (.int .i64 (xs.getD k 0))
 free:∀o,w.frozen? ⟨g,o,none⟩=false
theorem yt{C:Type}(xs:List C)(z x j i)(hj:j<xs.length):(xs.set j x).getD i z=if i=j then x else xs.getD i z:=by
 grind
def IZ(w:World)(g:Nat)(a:Option Addr)(n:Nat)(xs:List Int):Prop:=n=0\/(a=some ⟨g,0,none⟩/\IBk w g n xs)
def VZ(w:World)(g:Nat)(a:Option Addr)(n:Nat)(vs:List Vl):Prop:=n=0\/(a=some ⟨g,0,none⟩/\VA w g n vs)
theorem Kept.chg1(k:Kept g (g+1) w O)(h:S g):Chg S w O:=
 ⟨k.os,k.tape,k.output,k.size,λi hi hn=>k.block i hi λc=>hn ((show g=i by omega) ▸ h)⟩
theorem Chg.andThen{a b c}(h:Chg S a b)(k:Chg S b c):Chg S a c:=
 ⟨k.os.trans h.os,k.tape.trans h.tape,k.output.trans h.output,yao h.size k.size,λi hi hn=>(k.block i (yak hi h.size) hn).trans (h.block i hi hn)⟩
theorem eN{W}(h:W.ownsRow base e size v n xs)(k:Kept 0 0 W F):F.ownsRow base e size v n xs:=by
 refine⟨h.1,h.2.imp id ?_⟩;rintro⟨g,cap,ao,ad,R,a6,U⟩;refine⟨g,_,_,ad,R,?_,U⟩;have az:g<W.heap.size:=by grind
 rw[k.block g az xaa];exact a6
theorem lg{j}(h:w.grownBy O j)(au:∀k,j=some k->base<=k){w0}(k:Kept 0 0 w0 w)(hb:w0.heap.size<=base):Kept 0 0 w0 O:=
 ⟨h.os.trans k.os,h.tape.trans k.tape,h.output.trans k.output,yao k.size h.size,λi hi _=>by
  rw[h.block i (yak hi k.size) (λc=>by grind)]
  exact k.block i hi xaa⟩
theorem OU:∀(vs:List Vl),∀u∈fU vs,u.oneCell'=true
 |[],_,h=>by cases h
 |v::r,u,h=>by
  rcases List.mem_append.1 h with c|c
  ·exact EP v u c
  ·exact OU r u c
theorem lJ{xs:List Int}{q}(h:q<xs.length):xs.getD q 0∈xs:=by
 simp_all
theorem gi{f}{W:World}(h:W.ownsRow base e size v n xs)(hb:f<=base):W.ownsRow f e size v n xs:=
 ⟨h.1,h.2.imp id λ⟨g,cap,ao,ad,R,a6⟩=>⟨g,cap,ao,ad,yao hb R,a6⟩⟩
theorem Kept.drew{lo hi}(h:Kept lo hi w O):Kept lo hi w O.drew:=⟨h.os,h.tape,h.output,h.size,h.block⟩
theorem cE.qcm(h:Zp:=by
 have:=aN g (jL ad);rw[k.block g az xaa];exact a6):Zp:=h
open cE in
theorem fJ{l h W}(o:W.ownsRow base e size v n xs)(k:Kept l h W F)(aN:∀g,v.ownBlock=some g->g<l\/h<=g):F.ownsRow base e size v n xs:=by
 exact qcl
abbrev fO:Obj:=.cells #[.slice none 0 0,.slice none 0 0,.slice none 0 0] 73
structure RB(W:World)(p:Nat)(b0 b1 b2:Value):Prop where
 sz:p<W.heap.size
 q0:W.cell? ⟨p,0,none⟩=some b0
 q1:W.cell? ⟨p,1,none⟩=some b1
 q2:W.cell? ⟨p,2,none⟩=some b2
 f0:W.frozen? ⟨p,0,none⟩=false
 f1:W.frozen? ⟨p,1,none⟩=false
 f2:W.frozen? ⟨p,2,none⟩=false
theorem RB.keep{W}(t:RB W p bE R a6)(k:Kept 0 0 W F):RB F p bE R a6:=
 ⟨yak t.sz k.size,mH k t.sz t.q0,mH k t.sz t.q1,mH k t.sz t.q2,by rw[k.frozen t.sz xaa];exact t.f0,by rw[k.frozen t.sz xaa];exact t.f1,by rw[k.frozen t.sz xaa];exact t.f2⟩
theorem iU(w:World):RB (w.alloc fO) w.heap.size (.slice none 0 0) (.slice none 0 0) (.slice none 0 0):=by
 exact xjb
theorem fd(w:World)(g a b c)(aj:w.cell? ⟨g,0,none⟩=some a)(B:w.cell? ⟨g,1,none⟩=some b)(N:w.cell? ⟨g,2,none⟩=some c)(x y z):
  (((w.setCell ⟨g,0,none⟩ x).setCell ⟨g,1,none⟩ y).setCell ⟨g,2,none⟩ z).cell? ⟨g,0,none⟩=some x/\(((w.setCell ⟨g,0,none⟩ x).setCell ⟨g,1,none⟩ y).setCell ⟨g,2,none⟩ z).cell? ⟨g,1,none⟩=some y/\(((w.setCell ⟨g,0,none⟩ x).setCell ⟨g,1,none⟩ y).setCell ⟨g,2,none⟩ z).cell? ⟨g,2,none⟩=some z:=by
 refine⟨?_,?_,?_⟩
 ·rw[eG _ _ _ _ _ _ (.inr xaa),eG _ _ _ _ _ _ (.inr xaa)];exact fc _ _ _ _ _ aj
 ·rw[eG _ _ _ _ _ _ (.inr xaa)];exact fc _ _ _ _ _ (by rw[eG _ _ _ _ _ _ (.inr xaa)];exact B)
 exact fc _ _ _ _ _ (by rw[eG _ _ _ _ _ _ (.inr xaa),eG _ _ _ _ _ _ (.inr xaa)];exact N)
theorem eD(w):Kept 0 0 w w.drew:=⟨rfl,rfl,rfl,yad,λ_ _ _=>rfl⟩
theorem iH{W:World}(h:W.ownsRow base e size v n xs):∃a cap,v=.slice a n cap:=by
 rcases h.2 with⟨e,rfl⟩|⟨g,cap,ao,e,_⟩<;>grind
def Apart(u v:Value):Prop:=∀k,u.ownBlock=some k->v.ownBlock≠some k
theorem sR{R a6 ad be av aT Y ae:Nat}{u ys}{W:World}(B:W.ownsRow R ad av u Y xs)(N:F.ownsRow a6 be aT v ae ys)(hb:W.heap.size<=a6):Apart u v:=λk J aL=>by
 have:=(eF B J).2
 have:=(eF N aL).1
 omega
theorem Mz(w:World)(P I o x y z)(h:I≠P):(((w.setCell ⟨P,0,none⟩ x).setCell ⟨P,1,none⟩ y).setCell ⟨P,2,none⟩ z).cell? ⟨I,o,none⟩=w.cell? ⟨I,o,none⟩:=by
 exact xhq
theorem AB{W xs}(h:W.ownsRow base 3 1 (.slice b n d) n (xs.map (Value.int .i64)))(ag:xs.length=n):n=0\/∃g,b=some ⟨g,0,none⟩/\base<=g/\IBk W g n xs:=by
 rcases h.2 with⟨_,c⟩|⟨g,cap,ao,e,R,a6,U,_,ct,b2⟩
 ·exact .inl c
 injection e with ax aF bv;subst ax;have az:g<W.heap.size:=by grind
 refine .inr ⟨g,rfl,R,ag,az,λk J=>?_,λo=>frozen_of_row W g o _ _ a6⟩;rw[cell_of_row W g _ _ _ _ a6,<-Array.getElem?_toList];exact xit
theorem IZ.is{W xs}(h:IZ W g a n xs)(ag:xs.length=n):IS W 0 W.heap.size a n xs:=
 ⟨ag,by
  rcases h with aj|⟨rfl,q⟩
  ·exact .inl aj
  ·exact .inr ⟨g,0,rfl,yae,q.lt,q.lt,λk J=>by rw[Nat.zero_add];exact q.at_ k J⟩⟩
theorem VZ.vs{W vs}(h:VZ W g a n vs)(ag:vs.length=n)(J:∀v∈vs,v.k<18446744073709551616):VS W 0 W.heap.size a n vs:=
 ⟨ag,J,by
  rcases h with aj|⟨rfl,q⟩
  ·exact .inl aj
  ·exact .inr ⟨g,0,rfl,yae,q.lt,q.lt,λk J=>by rw[Nat.zero_add];exact q.at_ k J⟩⟩
theorem nV{W xs}(h:W.ownsRow base 3 1 (.slice b n d) n (xs.map (Value.int .i64)))(ag:xs.length=n):IS W 0 W.heap.size b n xs:=by
 rcases AB h ag with aj|⟨g,e,_,q⟩
 ·exact IZ.is (g:=0) (.inl aj) ag
 exact IZ.is (.inr ⟨e,q⟩) ag
theorem AC{W vs}(h:W.ownsRow base 79 6 (.slice b n d) n (fU vs))(ag:vs.length=n)(J:∀v∈vs,v.k<18446744073709551616):VS W 0 W.heap.size b n vs:=by
 rcases Nat.eq_zero_or_pos n with aj|aj
 ·exact VZ.vs (g:=0) (.inl aj) ag J
 obtain⟨g,cap,e,_,_,_,bl⟩:=mV h aj ag;injection e with ax;exact VZ.vs (.inr ⟨ax,bl⟩) ag J
theorem G0.keepC{W}(t:G0 W p bE R a6)(k:Chg S W F)(aN:¬S p):G0 F p bE R a6:=by
 have e:∀o,_:=λo=>k.cell (p:=⟨p,o,none⟩) t.sz aN;exact⟨yak t.sz k.size,jn e t.q0,jn e t.q1,jn e t.q2⟩
