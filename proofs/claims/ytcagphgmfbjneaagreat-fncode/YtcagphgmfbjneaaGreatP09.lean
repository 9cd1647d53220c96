import Derived.Test.YtcagphgmfbjneaaGreatP06
import Derived.Test.YtcagphgmfbjneaaGreatP07
namespace Go.Proofs.Z
variable{Zp:Prop}
open Tryz Go.RowKit Flt
set_option maxRecDepth 1000000
set_option maxHeartbeats 0
section
attribute[local go_sem] eE eD eC
variable{aH w H bn B:World}{S:Nat->Prop}{base lo e g hi p k lo' m n hi' b off:Nat}{xs ins:List Int}{bL U aV u:Value}{vs:List Vl}{a:Option Addr}
def IR(w:World)(g:Nat)(xs:List Int):Prop:=w.heap[g]? =some (.cells (xs.map (Value.int .i64)).toArray 3 (0,0))
theorem IR.lt(h:IR w g xs):g<w.heap.size:=by
 grind[IR]
theorem IR.cell(h:IR w g xs)(k)(O:k<xs.length):w.cell? ⟨g,k,none⟩=some (h1 (xs.getD k 0)):=by
 rw[cell_of_row w g k _ _ _ h];grind
theorem IR.free(h:IR w g xs)(k):w.frozen? ⟨g,k,none⟩=false:=frozen_of_row w g k _ _ h
theorem IR.keep{l h}(f:IR w g xs)(k:Kept l h w B)(aO:g<l\/h<=g\/h<=l):IR B g xs:=by
 unfold IR;rw[k.block g f.lt xaa];exact f
theorem IR.set(h:IR w g xs)(k x):IR (w.setCell ⟨g,k,none⟩ (h1 x)) g (xs.set k x):=by
 unfold IR at h⊢;exact qdc
theorem IR.made(w:World)(n):IR (w.alloc (.cells (madeCells #[h1 0] n) 3)) w.heap.size (List.replicate n 0):=by
 unfold IR;rw[heap_alloc_new]
 have:(madeCells #[h1 0] n)=(List.map (Value.int .i64) (List.replicate n 0)).toArray:=by
  apply Array.toList_inj.1;rw[toList_madeCells_one];simp
 rw[this]
theorem rZ:(prog.info? 3).map (λi=>(i.zero,i.size,i.bytes))=some (some (h1 0),1,8):=by kernel_rfl
theorem FY(n:Nat)(w)(ag:n<=1099511627776):
  (Instr.makeSlice 23 (h1 n) (h1 n)).run prog w=.ok (h0 w.heap.size n n) (w.alloc (.cells (madeCells #[h1 0] n) 3)):=by
 obtain⟨i,hi,hz0,hz1,hz2⟩:=info_parts rZ;have:=run_make w 23 3 i _ underlying23 hi hz0 .i64 .i64 n n xaa xaa (by grind) xaa;exact qcb
theorem JV(h:∀v∈vs,v.k<18446744073709551616)(k):(vs.getD k h9).k<18446744073709551616:=by
 rw[yai];by_cases O:k<vs.length
 ·simp_all
 rw[List.getElem?_eq_none xaa];exact(by decide:h9.k<18446744073709551616)
abbrev eX(a1:Option Addr)(n1 c1:Nat)(a2:Option Addr)(n2 c2:Nat)(a3:Option Addr)(n3 c3:Nat):Value:=.agg #[.slice a1 n1 c1,.slice a2 n2 c2,.slice a3 n3 c3]
structure GS(w:World)(a1:Option Addr)(n1:Nat)(a2:Option Addr)(n2:Nat)(a3:Option Addr)(n3:Nat)(ins:List Int)(vs:List Vl)(outs:List Int):Prop where
 i:IS w 0 w.heap.size a1 n1 ins
 v:VS w 0 w.heap.size a2 n2 vs
 o:IS w 0 w.heap.size a3 n3 outs
theorem IS.mono(f:IS w lo hi a n xs)(F:lo'<=lo)(h2:hi<=hi'):IS w lo' hi' a n xs:=
 ⟨f.len,by
  rcases f.at_ with ak|⟨g,off,e,a1,J,a3,a4⟩<;>grind⟩
theorem VS.mono(f:VS w lo hi a n vs)(F:lo'<=lo)(h2:hi<=hi'):VS w lo' hi' a n vs:=
 ⟨f.len,f.lt,by
  rcases f.at_ with ak|⟨g,off,e,a1,J,a3,a4⟩<;>grind⟩
theorem GS.keep{a1 J a3 Z ae ab outs}(f:GS w a1 Z J ae a3 ab ins vs outs)(k:Kept 0 0 w B):GS B a1 Z J ae a3 ab ins vs outs:=
 ⟨(f.i.keep k yaa).mono yad k.size,(f.v.keep k yaa).mono yad k.size,(f.o.keep k yaa).mono yad k.size⟩
theorem fk(w g x y z):Kept g (g+1) w (((w.setCell ⟨g,0,none⟩ x).setCell ⟨g,1,none⟩ y).setCell ⟨g,2,none⟩ z):=by
 have k:∀(w:World) (a:Nat) (u:Value),Kept g (g+1) w _:=λw a u=>eU w ⟨g,a,none⟩ u yac;exact((k _ _ _).trans (k _ _ _)).trans (k _ _ _)
theorem qD(w W)(k:Kept 0 0 w W)(g o v)(h:w.heap.size<=g):Kept 0 0 w (W.setCell ⟨g,o,none⟩ v):=
 k.new (eU (lo:=g) (hi:=g+1) W ⟨g,o,none⟩ v yac) h
def g7(op:Int):Bool:=decide (op=11\/op=12)
theorem FZ(op w):Calls prog 72 #[h1 op] w λe B=>e=.returned (.bool (g7 op))/\B=w:=by
 by_cases F:op=11
 ·subst F;exact xgh
 by_cases h2:op=12
 ·subst h2;exact xgh
 rw[show g7 op=false from yay xaa];have aS:(op==11)=false:=yan F;have a9:(op==12)=false:=yan h2;clear F h2;exact xgh
def fF(v:Vl):Bool:=!(((decide (cnt v.op<1)&&v.op !=0)&&v.a !=0)||(decide (cnt v.op<2)&&v.b !=0)||((decide (cnt v.op<3)&&!g7 v.op)&&v.c !=0))
theorem DB(w op len A I C K n)(ag:n<=3)(p)(bf:V (∀w,Calls prog 54 #[h1 op] w λe B=>e=.returned (h1 (n:Nat))/\B=w))
  (bZ:V (∀w,Calls prog 72 #[h1 op] w λe B=>e=.returned (.bool p)/\B=w)):
  Calls prog 53 #[lK op len A I C K] w λe B=>e=.returned (.bool (!(((decide (n<1)&&op !=0)&&A !=0)||(decide (n<2)&&I !=0)||((decide (n<3)&&!p)&&C !=0))))/\Kept 0 0 w B:=by
 rcases (by omega:n=0\/n=1\/n=2\/n=3) with rfl|rfl|rfl|rfl
 all_goals
  go_enter func53,ntmps53
  go_wp2_with (first|(go_at_call 54;refine(bf.o _).mono ?_;rintro e am ⟨rfl,rfl⟩)|(go_at_call 72;refine(bZ.o _).mono ?_;rintro e am ⟨rfl,rfl⟩))
  all_goals
   go_ret
   exact⟨by simp_all,eA _ _ _ _⟩
theorem zt(w v):Calls prog 53 #[v.agg] w λe B=>e=.returned (.bool (fF v))/\Kept 0 0 w B:=
 DB w v.op v.len v.a v.b v.c v.k (cnt v.op) (gK _) (g7 v.op) (λw=>qq _ w) (λw=>FZ _ w)
def fo(v:Vl):List Int:=[v.a,v.b,v.c].take (cnt v.op)
theorem DC(v):(fo v).length=cnt v.op:=by
 have:=gK v.op;simp[fo];omega
def okV(ins:List Int)(vs:List Vl)(i:Nat):Bool:=
 (lenB (vs.getD i h9).len&&fF (vs.getD i h9))&&
  (if (vs.getD i h9).op=0 then gm (vs.getD i h9).a ins.length&&(vs.getD i h9).len==ins.getD (vs.getD i h9).a.toNat 0
   else (fo (vs.getD i h9)).all (gm · i)&&eQ (vs.getD i h9).op (vs.getD i h9).len (vs.getD i h9).c ((fo (vs.getD i h9)).map λo=>(vs.getD o.toNat h9).len))
abbrev fx(a1:Option Addr)(n1 c1:Nat)(a2:Option Addr)(n2 c2:Nat)(a3:Option Addr)(n3 c3:Nat):Obj:=.cells #[.slice a1 n1 c1,.slice a2 n2 c2,.slice a3 n3 c3] 108
structure GB(W:World)(p:Nat)(b0 b1 b2:Value)(v:Vl):Prop where
 sz:p+1<W.heap.size
 q0:W.cell? ⟨p,0,none⟩=some b0
 q1:W.cell? ⟨p,1,none⟩=some b1
 q2:W.cell? ⟨p,2,none⟩=some b2
 vt:At W (p+1) 0 v
theorem GB.keep{W v}(t:GB W p bL U aV v)(k:Kept 0 0 W H):GB H p bL U aV v:=by
 have e:∀g o,g<=p+1->_:=λg o h=>k.cell (p:=⟨g,o,none⟩) (Nat.lt_of_le_of_lt h t.sz) xaa;exact⟨yak t.sz k.size,by rw[e _ _ xaa];exact t.q0,by rw[e _ _ xaa];exact t.q1,by rw[e _ _ xaa];exact t.q2,t.vt.keep t.sz k yaa⟩
theorem zu(w:World)(bL U aV v):GB ((w.alloc (.cells #[bL,U,aV] 108)).alloc (fW v.op v.len v.a v.b v.c v.k)) w.heap.size bL U aV v:=by
 have F:(w.alloc (.cells #[bL,U,aV] 108)).heap.size=w.heap.size+1:=by simp
 refine⟨?_,?_,?_,?_,?_,?_,?_,?_,?_,?_⟩;all_goals first|(go_simp;done)|(simp;done)
theorem rD{p}(O:k<xs.length)(h:(xs.take k).all p=true)(t:p (xs.getD k 0)=true):(xs.take (k+1)).all p=true:=by
 rw[yau O,List.all_append,h];exact xii
theorem ue{p}(O:k<xs.length)(t:p (xs.getD k 0)=false):xs.all p=false:=by
 rw[yai,yam O]at t;rw[List.all_eq_false];exact⟨_,List.getElem_mem _,by simpa using t⟩
def eZ:List Vl->Int
 |[]=>0
 |v::vs=>v.len+eZ vs
def okG(ins:List Int)(vs:List Vl)(outs:List Int):Bool:=
 decide (ins.length<=20/\vs.length<=2000/\outs.length<=50)&&(ins.all lenB&&((List.range vs.length).all (okV ins vs)&&(outs.all (gm · vs.length)&&decide (eZ vs<=50000))))
theorem vw(xs v):eZ (xs++[v])=eZ xs+v.len:=by
 induction xs<;>grind[eZ]
theorem oD(O:k<vs.length):eZ (vs.take (k+1))=eZ (vs.take k)+(vs.getD k h9).len:=by
 rw[yau O,vw,yai,yam O];rfl
theorem ig{p}(h:(List.range k).all p=true)(t:p k=true):(List.range (k+1)).all p=true:=by
 rw[List.range_succ,List.all_append,h];simpa using t
theorem jh{p}(O:k<n)(t:p k=false):(List.range n).all p=false:=by
 rw[List.all_eq_false];exact⟨k,List.mem_range.2 O,by simpa using t⟩
theorem gi{i}(h:okV ins vs i=true):1<=(vs.getD i h9).len/\(vs.getD i h9).len<=1000:=by
 unfold okV at h;rw[Bool.and_eq_true,Bool.and_eq_true]at h;exact of_decide_eq_true h.1.1
structure G0(W:World)(p:Nat)(b0 b1 b2:Value):Prop where
 sz:p<W.heap.size
 q0:W.cell? ⟨p,0,none⟩=some b0
 q1:W.cell? ⟨p,1,none⟩=some b1
 q2:W.cell? ⟨p,2,none⟩=some b2
theorem G0.keep{W}(t:G0 W p bL U aV)(k:Kept 0 0 W H):G0 H p bL U aV:=
 ⟨yak t.sz k.size,iI k t.sz t.q0,iI k t.sz t.q1,iI k t.sz t.q2⟩
theorem hH(w:World)(bL U aV):G0 (w.alloc (.cells #[bL,U,aV] 108)) w.heap.size bL U aV:=by
 refine⟨?_,?_,?_,?_⟩;all_goals first|(go_simp;done)|(simp;done)
structure Chg(S:Nat->Prop)(w w':World):Prop where
 os:w'.os=w.os
 tape:w'.tape=w.tape
 output:w'.output=w.output
 size:w.heap.size<=w'.heap.size
 block:∀k,k<w.heap.size->¬S k->w'.heap[k]? =w.heap[k]?
theorem Chg.cell(h:Chg S w B){p}(aQ:p.block<w.heap.size)(ag:¬S p.block):B.cell? p=w.cell? p:=World.cell?_of_block (w:=w) (h.block p.block aQ ag)
theorem Chg.frozen(h:Chg S w B){p}(aQ:p.block<w.heap.size)(ag:¬S p.block):B.frozen? p=w.frozen? p:=World.frozen?_of_block (w:=w) (h.block p.block aQ ag)
theorem Kept.chg(h:Kept 0 0 w B):Chg S w B:=⟨h.os,h.tape,h.output,h.size,λk O _=>h.block k O xaa⟩
theorem Chg.kept{C}(k:Kept 0 0 C w)(h:Chg S w B)(a2:∀i,S i->C.heap.size<=i):Kept 0 0 C B:=
 ⟨h.os.trans k.os,h.tape.trans k.tape,h.output.trans k.output,yao k.size h.size,λi hi _=>(h.block i (yak hi k.size) (λc=>by grind)).trans (k.block i hi xaa)⟩
def fN:List Vl->List Value
 |[]=>[]
 |v::r=>v.cells++fN r
theorem mC(a b):fN (a++b)=fN a++fN b:=by
 induction a<;>grind[fN]
theorem qE(v):fN [v]=v.cells:=by simp[fN]
theorem zv(a):(fN a).length=a.length*6:=by
 induction a<;>grind[fN,yaq,Vl.cells]
theorem xG:∀(a:List Vl) (k j:Nat),k<a.length->j<6->(fN a)[k*6+j]? =(a.getD k h9).cells[j]?
 |[],k,j,O,_=>by simp at O
 |x::r,0,j,_,hj=>by
  grind[fN,Vl.cells]
 |x::r,k+1,j,O,hj=>by
  have:(x::r).getD (k+1) h9=r.getD k _:=rfl
  rw[this,fN,yas (by grind[Vl.cells,yaq])]
  have e:(k+1)*6+j-x.cells.length=k*6+j:=by grind[Vl.cells]
  rw[e]
  exact xG r k j (by grind) hj
theorem nj{W v}(h:W.ownsRow base 86 6 v n (fN vs))(ag:0<n)(ai:vs.length=n):
  ∃g cap,v=h0 g n cap/\base<=g/\g<W.heap.size/\n<=cap/\VA W g n vs:=by
 rcases h.2 with⟨_,c⟩|⟨g,cap,ad,rfl,U,aV,aa,_,ct,bX⟩
 ·omega
 have aK:g<W.heap.size:=by grind
 have Y:∀k j,k<n->j<6->W.cell? _=(vs.getD k _).cells[j]?:=λk j O hj=>by
  rw[cell_of_row W g _ _ _ _ aV,<-Array.getElem?_toList]
  have:(ad.toList.take (n*6))[k*6+j]? =(fN vs)[k*6+j]?:=by rw[bX]
  rw[List.getElem?_take_of_lt xaa]at this
  rw[this]
  exact xG vs k j xaa hj
 refine⟨g,_,rfl,U,aK,aa,ai,aK,λk O=>?_,λo=>frozen_of_row W g o _ _ aV⟩;exact⟨Y k 0 O xaa,Y k 1 O xaa,Y k 2 O xaa,Y k 3 O xaa,Y k 4 O xaa,Y k 5 O xaa⟩
structure StQ(Q:Nat->Prop)(R:Option Nat)(w:World)(R':Option Nat)(w':World):Prop where
 chg:Chg (λi=>Q i\/R=some i) w w'
 row:R'=R\/∃r,R'=some r/\w.heap.size<=r
theorem StQ.refl(Q R w):StQ Q R w R w:=⟨⟨rfl,rfl,rfl,yad,λ_ _ _=>rfl⟩,.inl rfl⟩
theorem eG{size v xs}{W:World}(h:W.ownsRow base e size v n xs)(O:v.ownBlock=some k):base<=k/\k<W.heap.size:=by
 rcases h.2 with⟨rfl,_⟩|⟨g,cap,ad,rfl,U,aV,_⟩<;>grind[Value.ownBlock]
theorem mf(w:World)(v):At (w.alloc (fW v.op v.len v.a v.b v.c v.k)) w.heap.size 0 v:=by
 refine⟨?_,?_,?_,?_,?_,?_⟩;all_goals first|(go_simp;done)|(simp;done)
theorem lU{size v xs}{W:World}(h:W.ownsRow base e size v n xs)(m o):((W.alloc o).drewN m).ownsRow base e size v n xs:=h.alloc o
theorem oE(w:World)(o):(w.alloc o).heap[w.heap.size]? =some o:=by
 unfold World.alloc;simp
theorem Cu(w:World)(v:Vl)(m):∀j u,v.cells[j]? =some u->((w.alloc (.cells #[h1 v.op,h1 v.len,h1 v.a,h1 v.b,h1 v.c,.float .f64 v.k] 86)).drewN m).cell? ((⟨w.heap.size,0,none⟩:Addr).add j)=some u:=λj u a6=>
 World.news_of_block (w:=w.alloc (.cells #[h1 v.op,h1 v.len,h1 v.a,h1 v.b,h1 v.c,.float .f64 v.k] 86)) (t:=86) (fr:=(0,0)) (cs:=#[h1 v.op,h1 v.len,h1 v.a,h1 v.b,h1 v.c,.float .f64 v.k]) (oE _ _) j u a6
theorem kR{o bM}(aK:((aH.alloc o).drewN m).grownBy bn bM)(hb:b<aH.heap.size)(aF:bM≠some b)(al:aH.cell? ⟨b,off,none⟩=some u):bn.cell? ⟨b,off,none⟩=some u:=by
 have y:b<((aH.alloc o).drewN m).heap.size:=by show b<(aH.alloc o).heap.size;simp;omega
 rw[aK.cell_far _ y (λc=>aF c.symm)];exact iI (eA 0 0 _ o) hb al
theorem far2{o bM}(aK:((aH.alloc o).drewN m).grownBy bn bM)(hb:b<aH.heap.size)(aF:bM≠some b)(al:aH.frozen? ⟨b,off,none⟩=false):bn.frozen? ⟨b,off,none⟩=false:=by
 have y:b<((aH.alloc o).drewN m).heap.size:=by show b<(aH.alloc o).heap.size;simp;omega
 rw[aK.frozen_far _ y (λc=>aF c.symm)];show(aH.alloc o).frozen? _=_;rw[(eA 0 0 _ o).frozen hb xaa];exact al
theorem eI{size P o v xs}{W:World}(h:W.ownsRow base e size v n xs)(hP:v.ownBlock≠some P):(W.setCell ⟨P,o,none⟩ u).ownsRow base e size v n xs:=by
 refine⟨h.1,h.2.imp id ?_⟩;rintro⟨g,cap,ad,af,U,aV,aa⟩;refine⟨g,_,_,af,U,?_,aa⟩;rw[Below.heap_setCell W _ u g (λc=>hP (by rw[af,c];rfl))];exact aV
theorem F0(v:Vl):∀u∈v.cells,u.oneCell'=true:=λu a6=>by
 simp only[Vl.cells,List.mem_cons,List.not_mem_nil,or_false]at a6
 rcases a6 with rfl|rfl|rfl|rfl|rfl|rfl<;>rfl
end
section
variable{ins outs:List Int}{v:Vl}{us vs:List Vl}{i:Nat}
theorem rE(x):fb (fb x)=fb x:=by
 cases h:(f64.read x).isNaN
 ·rw[rx h,rx h]
 rw[oZ h];decide
theorem fb_zero:fb 0=0:=xab
def cv(v:Vl):Vl:=⟨v.op,v.len,v.a,v.b,v.c,fb v.k⟩
def Lk(us vs:List Vl):Prop:=us.map cv=vs.map cv
theorem cv_zero:cv h9=h9:=by simp[cv,h9,fb_zero]
theorem lN(vs:List Vl)(k):(vs.map cv).getD k h9=cv (vs.getD k h9):=by
 rw[yai,yai,List.getElem?_map];cases vs[k]? with
 |none=>exact cv_zero.symm
 |some x=>rfl
theorem Lk.len(h:Lk us vs):us.length=vs.length:=by
 have:=congrArg List.length h;simpa using this
theorem Ny(ins vs i):okV ins (vs.map cv) i=okV ins vs i:=by
 unfold okV;rw[lN];have e:∀o:Int,((vs.map cv).getD _ _).len=(vs.getD o.toNat _).len:=λo=>by rw[lN];rfl
 simp only[e];rfl
theorem DD(vs):eZ (vs.map cv)=eZ vs:=by
 induction vs with
 |nil=>rfl
 |cons v r G=>simp[eZ,G,cv]
theorem F1(ins vs outs):okG ins (vs.map cv) outs=okG ins vs outs:=by
 unfold okG;rw[DD,List.length_map];have:=funext (Ny ins vs);rw[this]
theorem Lk.okG(h:Lk us vs):okG ins us outs=okG ins vs outs:=by
 rw[<-F1 _ _,<-F1 _ vs,h]
theorem Nz{j}(h:okV ins vs i=true)(r)(b4:(us.getD j h9).op=(vs.getD i h9).op)(aV:(us.getD j h9).len=(vs.getD i h9).len)
  (az:cnt (vs.getD i h9).op<1->(us.getD j h9).a=(vs.getD i h9).a) (hb:cnt (vs.getD i h9).op<2->(us.getD j h9).b=(vs.getD i h9).b) (al:cnt (vs.getD i h9).op<3->(us.getD j h9).c=(vs.getD i h9).c)
  (hops:fo (us.getD j h9)=(fo (vs.getD i h9)).map r) (aF:∀o∈fo (vs.getD i h9),0<=o->o<i->(0<=r o/\r o<j)/\(us.getD (r o).toNat h9).len=(vs.getD o.toNat h9).len):okV ins us j=true:=by
 unfold okV at h⊢;generalize us.getD j _=u at*;generalize vs.getD i _=v at*;rw[Bool.and_eq_true,Bool.and_eq_true]at h;obtain⟨⟨F,h2⟩,h3⟩:=h;have aW:fF u=true:=by grind[fF]
 rw[aV,F,aW,b4];simp only[Bool.true_and];by_cases ak:v.op=0
 ·grind[cnt]
 rw[h6 ak]at h3⊢;rw[Bool.and_eq_true]at h3⊢
 have Y:∀o∈fo v,(0<=r o/\r o<j)/\(us.getD _ _).len=(vs.getD o.toNat _).len:=λo ho=>by
  have:=of_decide_eq_true (List.all_eq_true.1 h3.1 o ho)
  exact aF o ho this.1 this.2
 rw[hops];refine⟨?_,?_⟩
 ·rw[List.all_map,List.all_eq_true];intro o ho;exact decide_eq_true (Y o ho).1
 have e:((fo v).map r).map (λo=>(us.getD o.toNat h9).len)=(fo v).map λo=>(vs.getD o.toNat h9).len:=by
  rw[List.map_map];apply List.map_congr_left;intro o ho;exact(Y o ho).2
 grind[cnt,eQ]
theorem sU(hi:i<vs.length)(h:okV ins vs i=true):okV ins (vs++[v]) i=true:=by
 have e:∀k,k<vs.length->(vs++[v]).getD k h9=vs.getD k h9:=λk O=>by
  rw[yai,yat O,<-yai]
 refine Nz h id ?_ ?_ ?_ ?_ ?_ ?_ ?_
 ·rw[e i hi]
 ·rw[e i hi]
 ·intro _;rw[e i hi]
 ·intro _;rw[e i hi]
 ·intro _;rw[e i hi]
 ·rw[e i hi];simp
 intro o _ ak F;refine⟨⟨ak,F⟩,?_⟩;rw[e _ (by simp only[id];omega)];rfl
theorem sV(h:okV ins vs i=true):∀o∈fo (vs.getD i h9),0<=o/\o<i:=by
 intro o ho;unfold okV at h;generalize vs.getD i _=v at*;rw[Bool.and_eq_true]at h;have h3:=h.2;by_cases ak:v.op=0
 ·have c0:cnt v.op=0:=by rw[ak];rfl
  unfold fo at ho;rw[c0]at ho;simp at ho
 rw[h6 ak,Bool.and_eq_true]at h3;exact of_decide_eq_true (List.all_eq_true.1 h3.1 o ho)
theorem qF(h:1<=cnt v.op):v.a∈fo v:=by
 have:=gK v.op;unfold fo;rcases (by omega:cnt v.op=1\/cnt v.op=2\/cnt v.op=3) with e|e|e<;>simp[e]
theorem sW(h:2<=cnt v.op):v.b∈fo v:=by
 have:=gK v.op;unfold fo;rcases (by omega:cnt v.op=2\/cnt v.op=3) with e|e<;>simp[e]
theorem sX(h:3<=cnt v.op):v.c∈fo v:=by
 have:=gK v.op;unfold fo;simp[(by omega:cnt v.op=3)]
theorem jZ(h:okG ins vs outs=true):(ins.length<=20/\vs.length<=2000/\outs.length<=50)/\ins.all lenB=true/\(∀j,j<vs.length->okV ins vs j=true)/\(∀o∈outs,0<=o/\o<vs.length)/\eZ vs<=50000:=by
 unfold okG at h;simp only[Bool.and_eq_true]at h;obtain⟨F,h2,h3,h4,bK⟩:=h;exact⟨of_decide_eq_true F,h2,λj hj=>List.all_eq_true.1 h3 j (List.mem_range.2 hj),λo ho=>of_decide_eq_true (List.all_eq_true.1 h4 o ho),of_decide_eq_true bK⟩
theorem uf(h:okV ins vs i=true):lenB (vs.getD i h9).len=true:=by
 grind[okV]
def isO(outs:List Int)(i:Nat):Bool:=outs.any λo=>o==(i:Int)
end
section
attribute[local go_sem] eE eD eC
variable{w B H:World}{S T:Nat->Prop}{base lo e g hi size p d lo' l hi' h Z ae:Nat}{xs:List Bool}{bL U v aV aa:Value}{ins:List Int}
structure IBk(w:World)(g n:Nat)(xs:List Int):Prop where
 len:xs.length=n
 lt:g<w.heap.size
 at_:∀k,k<n->w.cell? ⟨g,k,none⟩=some (.int .i64 (xs.getD k 0))
 free:∀o,w.frozen? ⟨g,o,none⟩=false
theorem zw{J:Type}(xs:List J)(z x j i)(hj:j<xs.length):(xs.set j x).getD i z=if i=j then x else xs.getD i z:=by
 grind
def IZ(w:World)(g:Nat)(a:Option Addr)(n:Nat)(xs:List Int):Prop:=n=0\/(a=some ⟨g,0,none⟩/\IBk w g n xs)
def VZ(w:World)(g:Nat)(a:Option Addr)(n:Nat)(vs:List Vl):Prop:=n=0\/(a=some ⟨g,0,none⟩/\VA w g n vs)
theorem Kept.chg1(k:Kept g (g+1) w B)(h:S g):Chg S w B:=
 ⟨k.os,k.tape,k.output,k.size,λi hi ag=>k.block i hi λc=>ag ((show g=i by omega) ▸ h)⟩
theorem Chg.andThen{a b c}(h:Chg S a b)(k:Chg S b c):Chg S a c:=
 ⟨k.os.trans h.os,k.tape.trans h.tape,k.output.trans h.output,yao h.size k.size,λi hi ag=>(k.block i (yak hi h.size) ag).trans (h.block i hi ag)⟩
theorem eN{n xs W}(h:W.ownsRow base e size v n xs)(k:Kept 0 0 W H):H.ownsRow base e size v n xs:=by
 refine⟨h.1,h.2.imp id ?_⟩;rintro⟨g,cap,ad,af,U,aV,aa⟩;refine⟨g,_,_,af,U,?_,aa⟩;have aK:g<W.heap.size:=by grind
 rw[k.block g aK xaa];exact aV
theorem iK{bM}(h:w.grownBy B bM)(aF:∀k,bM=some k->base<=k){C}(k:Kept 0 0 C w)(hb:C.heap.size<=base):Kept 0 0 C B:=
 ⟨h.os.trans k.os,h.tape.trans k.tape,h.output.trans k.output,yao k.size h.size,λi hi _=>by
  rw[h.block i (yak hi k.size) (λc=>by grind)]
  exact k.block i hi xaa⟩
theorem PU:∀(vs:List Vl),∀u∈fN vs,u.oneCell'=true
 |[],_,h=>by cases h
 |v::r,u,h=>by
  rcases List.mem_append.1 h with c|c
  ·exact F0 v u c
  ·exact PU r u c
theorem pr{xs:List Int}{q}(h:q<xs.length):xs.getD q 0∈xs:=by
 simp_all
theorem gy{a n xs}{W:World}(h:W.ownsRow base e size v n xs)(hb:a<=base):W.ownsRow a e size v n xs:=
 ⟨h.1,h.2.imp id λ⟨g,cap,ad,af,U,aV⟩=>⟨g,cap,ad,af,yao hb U,aV⟩⟩
theorem Kept.drew(h:Kept lo hi w B):Kept lo hi w B.drew:=⟨h.os,h.tape,h.output,h.size,h.block⟩
theorem cB.qcn(h:Zp:=by
 have:=aO g (i4 af);rw[k.block g aK xaa];exact aV):Zp:=h
open cB in
theorem fD{n xs W}(o:W.ownsRow base e size v n xs)(k:Kept l h W H)(aO:∀g,v.ownBlock=some g->g<l\/h<=g):H.ownsRow base e size v n xs:=by
 exact qcm
abbrev fH:Obj:=.cells #[.slice none 0 0,.slice none 0 0,.slice none 0 0] 108
structure RB(W:World)(p:Nat)(b0 b1 b2:Value):Prop where
 sz:p<W.heap.size
 q0:W.cell? ⟨p,0,none⟩=some b0
 q1:W.cell? ⟨p,1,none⟩=some b1
 q2:W.cell? ⟨p,2,none⟩=some b2
 f0:W.frozen? ⟨p,0,none⟩=false
 f1:W.frozen? ⟨p,1,none⟩=false
 f2:W.frozen? ⟨p,2,none⟩=false
theorem RB.keep{W}(t:RB W p bL U aV)(k:Kept 0 0 W H):RB H p bL U aV:=
 ⟨yak t.sz k.size,iI k t.sz t.q0,iI k t.sz t.q1,iI k t.sz t.q2,by rw[k.frozen t.sz xaa];exact t.f0,by rw[k.frozen t.sz xaa];exact t.f1,by rw[k.frozen t.sz xaa];exact t.f2⟩
theorem iW(w:World):RB (w.alloc fH) w.heap.size (.slice none 0 0) (.slice none 0 0) (.slice none 0 0):=by
 exact xik
theorem fd(w:World)(g a b c)(ak:w.cell? ⟨g,0,none⟩=some a)(F:w.cell? ⟨g,1,none⟩=some b)(h2:w.cell? ⟨g,2,none⟩=some c)(x y z):
  (((w.setCell ⟨g,0,none⟩ x).setCell ⟨g,1,none⟩ y).setCell ⟨g,2,none⟩ z).cell? ⟨g,0,none⟩=some x/\(((w.setCell ⟨g,0,none⟩ x).setCell ⟨g,1,none⟩ y).setCell ⟨g,2,none⟩ z).cell? ⟨g,1,none⟩=some y/\(((w.setCell ⟨g,0,none⟩ x).setCell ⟨g,1,none⟩ y).setCell ⟨g,2,none⟩ z).cell? ⟨g,2,none⟩=some z:=by
 refine⟨?_,?_,?_⟩
 ·rw[eV _ _ _ _ _ _ (.inr xaa),eV _ _ _ _ _ _ (.inr xaa)];exact fy _ _ _ _ _ ak
 ·rw[eV _ _ _ _ _ _ (.inr xaa)];exact fy _ _ _ _ _ (by rw[eV _ _ _ _ _ _ (.inr xaa)];exact F)
 exact fy _ _ _ _ _ (by rw[eV _ _ _ _ _ _ (.inr xaa),eV _ _ _ _ _ _ (.inr xaa)];exact h2)
theorem eF(w):Kept 0 0 w w.drew:=⟨rfl,rfl,rfl,yad,λ_ _ _=>rfl⟩
theorem iL{n xs}{W:World}(h:W.ownsRow base e size v n xs):∃a cap,v=.slice a n cap:=by
 rcases h.2 with⟨e,rfl⟩|⟨g,cap,ad,e,_⟩<;>grind
def Apart(u v:Value):Prop:=∀k,u.ownBlock=some k->v.ownBlock≠some k
theorem ug{U aV af bg ar aW:Nat}{u xs ys}{W:World}(F:W.ownsRow U af ar u Z xs)(h2:H.ownsRow aV bg aW v ae ys)(hb:W.heap.size<=aV):Apart u v:=λk O aN=>by
 have:=(eG F O).2
 have:=(eG h2 aN).1
 omega
theorem jK(w:World)(P I o x y z)(h:I≠P):(((w.setCell ⟨P,0,none⟩ x).setCell ⟨P,1,none⟩ y).setCell ⟨P,2,none⟩ z).cell? ⟨I,o,none⟩=w.cell? ⟨I,o,none⟩:=by
 rw[eV _ _ _ _ _ _ (.inl (Ne.symm h)),eV _ _ _ _ _ _ (.inl (Ne.symm h)),eV _ _ _ _ _ _ (.inl (Ne.symm h))]
theorem Bs{W n b xs}(h:W.ownsRow base 3 1 (.slice b n d) n (xs.map (Value.int .i64)))(ai:xs.length=n):n=0\/∃g,b=some ⟨g,0,none⟩/\base<=g/\IBk W g n xs:=by
 rcases h.2 with⟨_,c⟩|⟨g,cap,ad,e,U,aV,aa,_,ct,bX⟩
 ·exact .inl c
 injection e with ay aB bz;subst ay;have aK:g<W.heap.size:=by grind
 refine .inr ⟨g,rfl,U,ai,aK,λk O=>?_,λo=>frozen_of_row W g o _ _ aV⟩;rw[cell_of_row W g _ _ _ _ aV,<-Array.getElem?_toList];exact xid
theorem IZ.is{W n a xs}(h:IZ W g a n xs)(ai:xs.length=n):IS W 0 W.heap.size a n xs:=
 ⟨ai,by
  rcases h with ak|⟨rfl,q⟩
  ·exact .inl ak
  ·exact .inr ⟨g,0,rfl,yae,q.lt,q.lt,λk O=>by rw[Nat.zero_add];exact q.at_ k O⟩⟩
theorem VZ.vs{W n a vs}(h:VZ W g a n vs)(ai:vs.length=n)(O:∀v∈vs,v.k<18446744073709551616):VS W 0 W.heap.size a n vs:=
 ⟨ai,O,by
  rcases h with ak|⟨rfl,q⟩
  ·exact .inl ak
  ·exact .inr ⟨g,0,rfl,yae,q.lt,q.lt,λk O=>by rw[Nat.zero_add];exact q.at_ k O⟩⟩
theorem oF{W n b xs}(h:W.ownsRow base 3 1 (.slice b n d) n (xs.map (Value.int .i64)))(ai:xs.length=n):IS W 0 W.heap.size b n xs:=by
 rcases Bs h ai with ak|⟨g,e,_,q⟩
 ·exact IZ.is (g:=0) (.inl ak) ai
 exact IZ.is (.inr ⟨e,q⟩) ai
theorem Bt{W n b vs}(h:W.ownsRow base 86 6 (.slice b n d) n (fN vs))(ai:vs.length=n)(O:∀v∈vs,v.k<18446744073709551616):VS W 0 W.heap.size b n vs:=by
 rcases Nat.eq_zero_or_pos n with ak|ak
 ·exact VZ.vs (g:=0) (.inl ak) ai O
 obtain⟨g,cap,e,_,_,_,be⟩:=nj h ak ai;injection e with ay;exact VZ.vs (.inr ⟨ay,be⟩) ai O
theorem G0.keepC{W}(t:G0 W p bL U aV)(k:Chg S W H)(aO:¬S p):G0 H p bL U aV:=by
 have e:∀o,_:=λo=>k.cell (p:=⟨p,o,none⟩) t.sz aO;exact⟨yak t.sz k.size,i1 e t.q0,i1 e t.q1,i1 e t.q2⟩
theorem F2{op}(ak:0<=op)(F:op<=13):sI op=cnt op:=by
 rcases (by omega:op=0\/op=1\/op=2\/op=3\/op=4\/op=5\/op=6\/op=7\/op=8\/op=9\/op=10\/op=11\/op=12\/op=13) with rfl|rfl|rfl|rfl|rfl|rfl|rfl|rfl|rfl|rfl|rfl|rfl|rfl|rfl<;>decide
theorem nu{vs i}(h:okV ins vs i=true):0<=(vs.getD i h9).op/\(vs.getD i h9).op<=13:=by
 grind[okV,eQ]
theorem IS.at_idx{a n xs}(f:IS w lo hi a n xs){o:Int}(ak:0<=o)(F:o<n):∃g off k,a=some ⟨g,off,none⟩/\o=(k:Nat)/\k<n/\g<w.heap.size/\w.cell? ⟨g,off+k,none⟩=some (h1 (xs.getD o.toNat 0)):=by
 rcases f.at_ with z|⟨g,off,e,_,_,bu,bC⟩
 ·omega
 exact⟨g,_,_,e,by omega,by omega,bu,bC _ xaa⟩
def BR(w:World)(g:Nat)(xs:List Bool):Prop:=w.heap[g]? =some (.cells (xs.map Value.bool).toArray 4 (0,0))
theorem BR.lt(h:BR w g xs):g<w.heap.size:=by
 grind[BR]
theorem BR.cell(h:BR w g xs)(k)(O:k<xs.length):w.cell? ⟨g,k,none⟩=some (.bool (xs.getD k false)):=by
 rw[cell_of_row w g k _ _ _ h];grind
theorem BR.free(h:BR w g xs)(k):w.frozen? ⟨g,k,none⟩=false:=frozen_of_row w g k _ _ h
theorem BR.keep(f:BR w g xs)(k:Kept l h w B)(aO:g<l\/h<=g\/h<=l):BR B g xs:=by
 unfold BR;rw[k.block g f.lt xaa];exact f
theorem BR.keepC(f:BR w g xs)(k:Chg S w B)(aO:¬S g):BR B g xs:=by
 unfold BR;rw[k.block g f.lt aO];exact f
theorem BR.set(h:BR w g xs)(k x):BR (w.setCell ⟨g,k,none⟩ (.bool x)) g (xs.set k x):=by
 unfold BR at h⊢;exact qdc
theorem BR.made(w:World)(n):BR (w.alloc (.cells (madeCells #[.bool false] n) 4)) w.heap.size (List.replicate n false):=by
 unfold BR;rw[heap_alloc_new]
 have:(madeCells #[.bool false] n)=(List.map Value.bool (List.replicate n false)).toArray:=by
  apply Array.toList_inj.1;rw[toList_madeCells_one];simp
 rw[this]
theorem MR:(prog.info? 4).map (λi=>(i.zero,i.size,i.bytes))=some (some (.bool false),1,1):=by kernel_rfl
theorem NA(n:Nat)(w)(ag:n<=1099511627776):
  (Instr.makeSlice 58 (h1 n) (h1 n)).run prog w=.ok (h0 w.heap.size n n) (w.alloc (.cells (madeCells #[.bool false] n) 4)):=by
 obtain⟨i,hi,hz0,hz1,hz2⟩:=info_parts MR;have:=run_make w 58 4 i _ underlying58 hi hz0 .i64 .i64 n n xaa xaa (by grind) xaa;exact qcb
theorem VA.keepC{n vs}(q:VA w g n vs)(k:Chg S w B)(aO:¬S g):VA B g n vs:=
 ⟨q.len,yak q.lt k.size,λj hj=>by
  have e:∀o,_:=λo=>k.cell (p:=⟨g,o,none⟩) q.lt aO
  obtain⟨c0,c1,c2,c3,c4,c5⟩:=q.at_ j hj
  exact⟨by grind,by grind,by grind,by grind,by grind,by grind⟩,λo=>by rw[k.frozen q.lt aO];exact q.free o⟩
theorem Chg.mono(h:Chg S w B)(aw:∀b,b<w.heap.size->S b->T b):Chg T w B:=
 ⟨h.os,h.tape,h.output,h.size,λk O ag=>h.block k O λc=>ag (aw k O c)⟩
theorem Chg.trans{a b c}(h:Chg S a b)(k:Chg S b c):Chg S a c:=Chg.andThen h k
theorem Chg.new{a b c}(h:Chg S a b)(k:Chg T b c)(bm:∀i,i<a.heap.size->T i->S i):Chg S a c:=
 ⟨k.os.trans h.os,k.tape.trans h.tape,k.output.trans h.output,yao h.size k.size,λi hi ag=>(k.block i (yak hi h.size) (λc=>ag (bm i hi c))).trans (h.block i hi ag)⟩
theorem fJ(w g o v)(h:S g):Chg S w (w.setCell ⟨g,o,none⟩ v):=
 (eU (lo:=g) (hi:=g+1) w ⟨g,o,none⟩ v yac).chg1 h
structure Ste where
 op:Int
 len:Int
 n:Int
 dst:Int
 a:Int
 b:Int
 c:Int
 k:Nat
def Ste.cells(v:Ste):List Value:=[.int .i64 v.op,.int .i64 v.len,.int .i64 v.n,.int .i64 v.dst,.int .i64 v.a,.int .i64 v.b,.int .i64 v.c,.float .f64 v.k]
def Ste.zero:Ste:=⟨0,0,0,0,0,0,0,0⟩
abbrev Ste.agg(v:Ste):Value:=.agg #[.int .i64 v.op,.int .i64 v.len,.int .i64 v.n,.int .i64 v.dst,.int .i64 v.a,.int .i64 v.b,.int .i64 v.c,.float .f64 v.k]
abbrev Ste.box(v:Ste):Obj:=.cells #[.int .i64 v.op,.int .i64 v.len,.int .i64 v.n,.int .i64 v.dst,.int .i64 v.a,.int .i64 v.b,.int .i64 v.c,.float .f64 v.k] 47
structure AtT(w:World)(g o:Nat)(v:Ste):Prop where
 c0:w.cell? ⟨g,o,none⟩=some (.int .i64 v.op)
 c1:w.cell? ⟨g,o+1,none⟩=some (.int .i64 v.len)
 c2:w.cell? ⟨g,o+2,none⟩=some (.int .i64 v.n)
 c3:w.cell? ⟨g,o+3,none⟩=some (.int .i64 v.dst)
 c4:w.cell? ⟨g,o+4,none⟩=some (.int .i64 v.a)
 c5:w.cell? ⟨g,o+5,none⟩=some (.int .i64 v.b)
 c6:w.cell? ⟨g,o+6,none⟩=some (.int .i64 v.c)
 c7:w.cell? ⟨g,o+7,none⟩=some (.float .f64 v.k)
theorem Cv:(prog.info? 47).map (λi=>(i.zero,i.size,i.bytes))=some (some (.agg #[h1 0,h1 0,h1 0,h1 0,h1 0,h1 0,h1 0,.float .f64 0]),8,64):=by kernel_rfl
abbrev put8(w:World)(g o:Nat)(v:Ste):World:=
 ((((((((w.setCell ⟨g,o,none⟩ (.int .i64 v.op)).setCell ⟨g,o+1,none⟩ (.int .i64 v.len)).setCell ⟨g,o+2,none⟩ (.int .i64 v.n)).setCell ⟨g,o+3,none⟩ (.int .i64 v.dst)).setCell ⟨g,o+4,none⟩ (.int .i64 v.a)).setCell ⟨g,o+5,none⟩ (.int .i64 v.b)).setCell ⟨g,o+6,none⟩ (.int .i64 v.c)).setCell ⟨g,o+7,none⟩ (.float .f64 v.k))
theorem JW(w g o u v)(h:AtT w g o u):AtT (put8 w g o v) g o v:=by
 unfold put8;cases h;constructor<;>exact tO
theorem DE(w g o v):Kept g (g+1) w (put8 w g o v):=by
 unfold put8;have k:∀(w:World) (a:Nat) (u:Value),Kept g (g+1) w _:=λw a u=>eU w ⟨g,a,none⟩ u yac;exact((((((((k _ _ _).trans (k _ _ _)).trans (k _ _ _)).trans (k _ _ _)).trans (k _ _ _)).trans (k _ _ _)).trans (k _ _ _)).trans (k _ _ _))
theorem AtT.keep{o v}(a:AtT w g o v)(aK:g<w.heap.size)(k:Kept l h w B)(aO:g<l\/h<=g\/h<=l):AtT B g o v:=by
 have e:∀b,_:=λb=>k.cell (p:=⟨g,b,none⟩) aK (by grind);exact⟨i1 e a.c0,i1 e a.c1,i1 e a.c2,i1 e a.c3,i1 e a.c4,i1 e a.c5,i1 e a.c6,i1 e a.c7⟩
structure TS(w:World)(lo hi:Nat)(a:Option Addr)(n:Nat)(vs:List Ste):Prop where
 len:vs.length=n
 lt:∀v∈vs,v.k<18446744073709551616
 at_:n=0\/∃g off,a=some ⟨g,off,none⟩/\lo<=g/\g<hi/\g<w.heap.size/\∀k,k<n->AtT w g (off+k*8) (vs.getD k Ste.zero)
theorem TS.keep{a n vs}(f:TS w lo hi a n vs)(k:Kept l h w B)(aO:hi<=l\/h<=lo\/h<=l):TS B lo hi a n vs:=
 ⟨f.len,f.lt,by
  rcases f.at_ with ak|⟨g,off,e,F,h2,h3,h4⟩
  ·exact .inl ak
  ·exact .inr ⟨g,_,e,F,h2,yak h3 k.size,λj hj=>(h4 j hj).keep h3 k xaa⟩⟩
theorem TS.mono{a n vs}(f:TS w lo hi a n vs)(F:lo'<=lo)(h2:hi<=hi'):TS w lo' hi' a n vs:=
 ⟨f.len,f.lt,by
  rcases f.at_ with ak|⟨g,off,e,ay,aB,bz,a0⟩<;>grind⟩
theorem qG{vs:List Ste}(h:∀v∈vs,v.k<18446744073709551616)(k):(vs.getD k Ste.zero).k<18446744073709551616:=by
 rw[yai];by_cases O:k<vs.length
 ·simp_all
 rw[List.getElem?_eq_none xaa];exact(by decide:Ste.zero.k<18446744073709551616)
structure Spn where
 off:Int
 len:Int
def Spn.cells(v:Spn):List Value:=[.int .i64 v.off,.int .i64 v.len]
def Spn.zero:Spn:=⟨0,0⟩
abbrev Spn.agg(v:Spn):Value:=.agg #[.int .i64 v.off,.int .i64 v.len]
abbrev Spn.box(v:Spn):Obj:=.cells #[.int .i64 v.off,.int .i64 v.len] 53
structure AtP(w:World)(g o:Nat)(v:Spn):Prop where
 c0:w.cell? ⟨g,o,none⟩=some (.int .i64 v.off)
 c1:w.cell? ⟨g,o+1,none⟩=some (.int .i64 v.len)
theorem xH:(prog.info? 53).map (λi=>(i.zero,i.size,i.bytes))=some (some (.agg #[h1 0,h1 0]),2,16):=by kernel_rfl
theorem AtP.keep{o v}(a:AtP w g o v)(aK:g<w.heap.size)(k:Kept l h w B)(aO:g<l\/h<=g\/h<=l):AtP B g o v:=by
 have e:∀b,_:=λb=>k.cell (p:=⟨g,b,none⟩) aK (by grind);exact⟨i1 e a.c0,i1 e a.c1⟩
structure PS(w:World)(lo hi:Nat)(a:Option Addr)(n:Nat)(vs:List Spn):Prop where
 len:vs.length=n
 at_:n=0\/∃g off,a=some ⟨g,off,none⟩/\lo<=g/\g<hi/\g<w.heap.size/\∀k,k<n->AtP w g (off+k*2) (vs.getD k Spn.zero)
theorem PS.keep{a n vs}(f:PS w lo hi a n vs)(k:Kept l h w B)(aO:hi<=l\/h<=lo\/h<=l):PS B lo hi a n vs:=
 ⟨f.len,by
  rcases f.at_ with ak|⟨g,off,e,F,h2,h3,h4⟩
  ·exact .inl ak
  ·exact .inr ⟨g,_,e,F,h2,yak h3 k.size,λj hj=>(h4 j hj).keep h3 k xaa⟩⟩
theorem PS.mono{a n vs}(f:PS w lo hi a n vs)(F:lo'<=lo)(h2:hi<=hi'):PS w lo' hi' a n vs:=
 ⟨f.len,by
  rcases f.at_ with ak|⟨g,off,e,ay,aB,bz,a0⟩<;>grind⟩
abbrev iQ(a1:Option Addr)(n1 c1:Nat)(a2:Option Addr)(n2 c2:Nat)(a3:Option Addr)(n3 c3:Nat)(pk:Int):Value:=.agg #[.slice a1 n1 c1,.slice a2 n2 c2,.slice a3 n3 c3,.int .i64 pk]
abbrev iE(a1:Option Addr)(n1 c1:Nat)(a2:Option Addr)(n2 c2:Nat)(a3:Option Addr)(n3 c3:Nat)(pk:Int):Obj:=.cells #[.slice a1 n1 c1,.slice a2 n2 c2,.slice a3 n3 c3,.int .i64 pk] 27
abbrev lC:Obj:=.cells #[.slice none 0 0,.slice none 0 0,.slice none 0 0,.int .i64 0] 27
structure CS(w:World)(a1:Option Addr)(n1:Nat)(a2:Option Addr)(n2:Nat)(a3:Option Addr)(n3:Nat)(ins:List Int)(ss:List Ste)(os:List Spn):Prop where
 i:IS w 0 w.heap.size a1 n1 ins
 s:TS w 0 w.heap.size a2 n2 ss
 o:PS w 0 w.heap.size a3 n3 os
theorem CS.keep{a1 J a3 ab ss a8}(f:CS w a1 Z J ae a3 ab ins ss a8)(k:Kept 0 0 w B):CS B a1 Z J ae a3 ab ins ss a8:=
 ⟨(f.i.keep k yaa).mono yad k.size,(f.s.keep k yaa).mono yad k.size,(f.o.keep k yaa).mono yad k.size⟩
abbrev setC4(w:World)(g:Nat)(x y z u:Value):World:=(((w.setCell ⟨g,0,none⟩ x).setCell ⟨g,1,none⟩ y).setCell ⟨g,2,none⟩ z).setCell ⟨g,3,none⟩ u
theorem j9(w g x y z u):Kept g (g+1) w (setC4 w g x y z u):=by
 have k:∀(w:World) (a:Nat) (u:Value),Kept g (g+1) w _:=λw a u=>eU w ⟨g,a,none⟩ u yac;exact((k _ _ _).trans (k _ _ _)).trans (k _ _ _) |>.trans (k _ _ _)
structure C0(W:World)(p:Nat)(b0 b1 b2 b3:Value):Prop where
 sz:p<W.heap.size
 q0:W.cell? ⟨p,0,none⟩=some b0
 q1:W.cell? ⟨p,1,none⟩=some b1
 q2:W.cell? ⟨p,2,none⟩=some b2
 q3:W.cell? ⟨p,3,none⟩=some b3
theorem C0.keepR{W}(t:C0 W p bL U aV aa)(k:Kept l h W H)(aO:p<l\/h<=p\/h<=l):C0 H p bL U aV aa:=by
 have e:∀o,_:=λo=>k.cell (p:=⟨p,o,none⟩) t.sz (by grind);exact⟨yak t.sz k.size,i1 e t.q0,i1 e t.q1,i1 e t.q2,i1 e t.q3⟩
theorem C0.keep{W}(t:C0 W p bL U aV aa)(k:Kept 0 0 W H):C0 H p bL U aV aa:=t.keepR k yaa
theorem iX(w:World)(bL U aV aa):C0 (w.alloc (.cells #[bL,U,aV,aa] 27)) w.heap.size bL U aV aa:=by
 refine⟨?_,?_,?_,?_,?_⟩;all_goals first|(go_simp;done)|(simp;done)
theorem uh(a b):eZ (a++b)=eZ a+eZ b:=by
 induction a with
 |nil=>simp[eZ]
 |cons y ys G=>simp[eZ,G];omega
abbrev eJ(op n p q r:Int):Vl:=⟨op,n,p,q,r,0⟩
def zx(n p q:Int)(N:Nat):List Vl×Int:=if p=-1 then ([],q)else if q=-1 then ([],p)else ([eJ 2 n p q 0],N)
def zy(n p q:Int)(N:Nat):List Vl×Int:=if q=-1 then ([],p)else if p=-1 then ([eJ 6 n q 0 0],N)else ([eJ 3 n p q 0],N)
def chM(n d p q:Int)(N:Nat):List Vl×Int:=
 if p=-1 then (if q=-1 then ([eJ 1 n 0 0 0,eJ 1 n 0 0 0,eJ 8 n d N ((N+1:Nat):Int)],((N+2:Nat):Int))else ([eJ 1 n 0 0 0,eJ 8 n d N q],((N+1:Nat):Int)))
 else (if q=-1 then ([eJ 1 n 0 0 0,eJ 8 n d p N],((N+1:Nat):Int))else ([eJ 8 n d p q],(N:Int)))
def zB(v:Vl)(ta tb:Int)(N:Nat):List Vl×Int:=
 if ta=-1 then (if tb=-1 then ([],-1)else ([eJ 4 v.len v.a tb 0],(N:Int)))
 else (if tb=-1 then ([eJ 4 v.len ta v.b 0],(N:Int))else ([eJ 4 v.len ta v.b 0,eJ 4 v.len v.a tb 0,eJ 2 v.len N ((N+1:Nat):Int) 0],((N+2:Nat):Int)))
def zC(i:Int)(v:Vl)(ta tb:Int)(N:Nat):List Vl×Int:=
 if ta=-1 then (if tb=-1 then ([],-1)else ([eJ 4 v.len i tb 0,eJ 5 v.len N v.b 0,eJ 6 v.len ((N+1:Nat):Int) 0 0],((N+2:Nat):Int)))
 else (if tb=-1 then ([eJ 5 v.len ta v.b 0],(N:Int))else ([eJ 5 v.len ta v.b 0,eJ 4 v.len i tb 0,eJ 5 v.len ((N+1:Nat):Int) v.b 0,eJ 3 v.len N ((N+2:Nat):Int) 0],((N+3:Nat):Int)))
