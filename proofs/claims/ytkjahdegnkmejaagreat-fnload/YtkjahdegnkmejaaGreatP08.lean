import Derived.Test.YtkjahdegnkmejaaGreatP05
namespace Go.Proofs.Z
variable{Zp:Prop}
open Tryz Go.RowKit Flt
set_option maxRecDepth 1000000
set_option maxHeartbeats 0
section
attribute[local go_sem] eE eC eB
variable{w O c:World}{T S:Nat->Prop}{lo g hi i n e:Nat}{xs:List Bool}{a b:Option Addr}{vs:List Vl}
theorem OW{op}(aj:0<=op)(B:op<=13):vY op=cnt op:=by
 rcases (by omega:op=0\/op=1\/op=2\/op=3\/op=4\/op=5\/op=6\/op=7\/op=8\/op=9\/op=10\/op=11\/op=12\/op=13) with rfl|rfl|rfl|rfl|rfl|rfl|rfl|rfl|rfl|rfl|rfl|rfl|rfl|rfl<;>decide
theorem rW{ins}(h:okV ins vs i=true):0<=(vs.getD i i0).op/\(vs.getD i i0).op<=13:=by
 grind[okV,eV]
theorem IS.at_idx{xs}(f:IS w lo hi a n xs){o:Int}(aj:0<=o)(B:o<n):∃g an k,a=some ⟨g,an,none⟩/\o=(k:Nat)/\k<n/\g<w.heap.size/\w.cell? ⟨g,an+k,none⟩=some (ih (xs.getD o.toNat 0)):=by
 rcases f.at_ with z|⟨g,an,e,_,_,bq,bB⟩
 ·omega
 exact⟨g,_,_,e,by omega,by omega,bq,bB _ xaa⟩
theorem VS.at_idx(f:VS w lo hi a n vs)(h:i<n):∃g an,a=some ⟨g,an,none⟩/\g<w.heap.size/\g<hi/\lo<=g/\At w g (an+i*6) (vs.getD i i0):=by
 rcases f.at_ with z|⟨g,an,e,aV,bg,bq,bB⟩
 ·omega
 exact⟨g,_,e,bq,bg,aV,bB i h⟩
theorem VS.keepC(f:VS w lo hi a n vs)(k:Chg S w O)(aN:∀g,lo<=g->g<hi->¬S g):VS O lo hi a n vs:=
 ⟨f.len,f.lt,by
  rcases f.at_ with z|⟨g,an,e,aV,bg,bq,bB⟩
  ·exact .inl z
  ·refine .inr ⟨g,_,e,aV,bg,yak bq k.size,λj hj=>?_⟩
   have e:∀o,_:=λo=>k.cell (p:=⟨g,o,none⟩) bq (aN g aV bg)
   obtain⟨c0,c1,c2,c3,c4,c5⟩:=bB j hj
   exact⟨jn e c0,jn e c1,jn e c2,jn e c3,jn e c4,jn e c5⟩⟩
theorem IS.keepC{xs}(f:IS w lo hi a n xs)(k:Chg S w O)(aN:∀g,lo<=g->g<hi->¬S g):IS O lo hi a n xs:=
 ⟨f.len,by
  rcases f.at_ with z|⟨g,an,e,aV,bg,bq,bB⟩
  ·exact .inl z
  ·exact .inr ⟨g,_,e,aV,bg,yak bq k.size,λj hj=>by rw[k.cell bq (aN g aV bg)];exact bB j hj⟩⟩
theorem yy(op)(aj:0<=op)(B:op<=13)(w):Calls prog 38 #[ih op] w λe O=>e=.returned (ih (cnt op:Nat))/\w=O:=by
 have:=jR _ w aj B;rw[OW aj B]at this;exact this.mono λ_ _ h=>⟨h.1,h.2.symm⟩
theorem cF.qcm(h:Zp:=by
 rw[k.block g az (aN g (jL ad))];exact a6):Zp:=h
open cF in
theorem eQ{base size v xs W F}(o:W.ownsRow base e size v n xs)(k:Chg S W F)(aN:∀g,v.ownBlock=some g->¬S g):F.ownsRow base e size v n xs:=by
 exact qcl
theorem fA{j}(h:w.grownBy O j):Chg (λb=>j=some b) w O:=
 ⟨h.os,h.tape,h.output,h.size,λk J hn=>h.block k J (λc=>hn c.symm)⟩
theorem ET{outs:List Int}{k}(J:k<outs.length)(h:(outs.take k).any (λo=>o==(i:Int))=false)(t:(outs.getD k 0==(i:Int))=false):(outs.take (k+1)).any (λo=>o==(i:Int))=false:=by
 rw[yau J,List.any_append,h];exact xek
theorem cH.qco(h:Zp:=by
 have aO:V _:=f.keep bF yaa;have HL:V _:=f.len;have HK:V _:=bF;clear f bF;go_enter func108,ntmps108;go_wp2_with fail;generalize w.alloc (fB R Y c1 a6 ae c2 U aa c3)=aK at ao aO HK⊢;go_loop [5] (λx=>∃k:Nat,k<=aa/\x=ih k/\V ((outs.take k).any (λo=>o==(i:Int))=false)) (λx=>aa-(intOf x).toNat)
 case atStart=>exact⟨0,yae,rfl,rfl⟩
 case round=>
  obtain⟨k,J,rfl,bl⟩:=hrel;obtain⟨_,aU,ax,aF⟩:=ao.o;by_cases aY:k<aa
  ·obtain⟨g,an,m,rfl,em,aD,az,Z⟩:=aO.o.at_idx (o:=k) xaa xaa;obtain rfl:k=m:=xaa;rw[Int.toNat_natCast]at Z;cases t:(outs.getD k 0==(i:Int))
   ·have H:V _:=ET (jn HL.o aY) bl.o t;generalize outs.getD k 0=x at Z t;exact xhu
   have H:V (isO outs i=true):=by
    show _=_;unfold isO;rw[List.any_eq_true];exact⟨outs.getD k 0,lJ (jn HL.o aY),t⟩
   generalize outs.getD k 0=x at Z t;clear bl;go_wp2;go_ret;exact⟨jL H.o,HK.o⟩
  obtain rfl:k=aa:=xaa
  have H:V (isO outs i=false):=by
   exact xis
  clear bl;go_wp2;go_ret;exact⟨jL H.o,HK.o⟩):Zp:=h
open cH in
theorem EU(w R a6 U Y c1 ae c2 aa c3 i lo hi outs)(f:IS w lo hi U aa outs)(hn:aa<=1000000):
  Calls prog 108 #[eX R Y c1 a6 ae c2 U aa c3,ih (i:Nat)] w λe O=>e=.returned (.bool (isO outs i))/\Kept 0 0 w O:=by
 exact qcn
theorem f4{W:World}{I m c xs s}(h:W.ownsRow I e s (.slice a n c) m xs):n=m:=by
 obtain⟨b,d,e⟩:=iH h;injection e
theorem mj{P}(w){bS rest o a Q}(am:o.guard=none)(s x t)
  (aR:o.op=.call {callee:=.builtin .append,args:=#[s,x],argTypes:=#[t,t]})
  (base) (e) (i) (z) (size l) (ht:P.underlying t=some (.slice e)) (hi:P.info? e=some i) (b5:i.zero=some z)
  (v:i.size=size) (q:i.bytes=l) (y:z.cells.size=size) (b9:0<size) (aw:a.eval s=.slice none 0 0)
  (b) (m c) (d) (aH:a.eval x=.slice b m c) (ag:d.length=m*size) (k:(b=none/\m=0)\/∃al,b=some al/\∀j u,d[j]? =some u->w.cell? (al.add j)=some u) (B:∀u∈d,u.oneCell'=true)
  (f:m<=maxLen) (C:m*l<=140737488355328) (ae:base<=w.heap.size)
  (h:∀v' O,O.ownsRow base e size v' m d->w.grownBy O none->wpList P bS Q rest (a.put o.dst v') O):wpList P bS Q (o::rest) a w:=by
 rcases k with⟨rfl,rfl⟩|⟨al,rfl,hn⟩
 ·have r:=List.length_eq_zero_iff.1 (jx ag);subst r
  have au:(Builtin.append_ #[t,t] o.type #[.slice none 0 0,.slice none 0 c]).run P w=.ok (.slice none 0 0) w:=by
   simp[Builtin.append_,run_underlying ht,sizeOf,typeInfo,hi,Builtin.lenOf,run_firstCells_none]
  refine wpList_plain am λ_ aS=>?_;unfold Oper.wp execOp;simp only[aR,resolve,invoke,builtin,Sem.run_bind,Sem.run_pure,Result.andThen_ok,List.map_toArray,List.map_cons,List.map_nil,aw,aH,au];exact aS _ _ (h _ _ (yaw w _ e _) ⟨rfl,rfl,rfl,yad,λ_ _ _=>rfl⟩)
 refine wpList_append_own w am s x t aR _ e i z _ _ ht hi b5 v q y b9 _ 0 _ aw (yaw w _ e _) _ m c _ aH ag hn B xaa (by grind) ae ?_;intro v' O ax aF _;rw[Nat.zero_add,List.nil_append]at ax;exact h _ _ ax aF
theorem il(g an j):(⟨g,an,none⟩:Addr).add j=⟨g,an+j,none⟩:=by
 simp[Addr.add_lit]
theorem PV{xs}(h:IS w lo hi b n xs):(b=none/\n=0)\/∃al,b=some al/\∀j u,(xs.map (Value.int .i64))[j]? =some u->w.cell? (al.add j)=some u:=by
 have ag:=h.len;rcases h.at_ with z|⟨g,an,rfl,_,_,_,ai⟩
 ·subst z;have:=List.length_eq_zero_iff.1 ag;subst this;cases b<;>grind
 refine .inr ⟨_,rfl,λj u G=>?_⟩;have hj:j<n:=by grind
 rw[il,ai j hj];simp_all
theorem PW(h:VS w lo hi b n vs):(b=none/\n=0)\/∃al,b=some al/\∀j u,(fU vs)[j]? =some u->w.cell? (al.add j)=some u:=by
 have ag:=h.len;rcases h.at_ with z|⟨g,an,rfl,_,_,_,ai⟩
 ·subst z;have:=List.length_eq_zero_iff.1 ag;subst this;cases b<;>grind[fU]
 refine .inr ⟨_,rfl,λj u G=>?_⟩;have hj:j<n*6:=by grind[yr]
 have k:j=j/6*6+j%6:=xaa;have J:j/6<n:=xaa;rw[k,wj _ _ _ xaa xaa]at G;rw[il];obtain⟨c0,c1,c2,c3,c4,c5⟩:=ai _ J;grind[Vl.cells]
theorem nW(w lo hi' b n c xs)(ah:n<=1000000)(h:IS w lo hi' b n xs):
  Calls prog 70 #[.slice b n c] w λe O=>∃a cap,e=.returned (.slice a n cap)/\O.ownsRow w.heap.size 3 1 (.slice a n cap) n (xs.map (Value.int .i64))/\Kept 0 0 w O:=by
 obtain⟨bY,hi,cg,b8,cc⟩:=info_parts qd;have bu:V _:=PV h;have bA:V _:=h.len;clear h;go_enter func70,ntmps70;go_wp2_with (first|(at_builtin;refine mj _ rfl _ _ _ rfl w.heap.size 3 _ _ 1 8 underlying24 hi cg b8 cc rfl xab rfl b n c _ rfl ?c0 bu.o ?c2 ?c3 ?c4 ?c5 ?_))
 case c0=>rw[List.length_map,bA.o,Nat.mul_one]
 case c2=>intro u G;obtain⟨x,_,rfl⟩:=List.mem_map.1 G;rfl
 case c3=>unfold maxLen;omega
 case c4=>omega
 case c5=>omega
 intro v' a7 Z bp;obtain⟨a,cap,rfl⟩:=iH Z;have H:V _:=lg bp (λk J=>by cases J) (Kept.refl 0 0 w) yad;have R2:V _:=Z;clear Z bp;go_wp2;go_ret;exact⟨a,_,rfl,R2.o,H.o⟩
def BR(w:World)(g:Nat)(xs:List Bool):Prop:=w.heap[g]? =some (.cells (xs.map Value.bool).toArray 4 (0,0))
theorem BR.lt(h:BR w g xs):g<w.heap.size:=by
 grind[BR]
theorem BR.cell(h:BR w g xs)(k)(J:k<xs.length):w.cell? ⟨g,k,none⟩=some (.bool (xs.getD k false)):=by
 rw[cell_of_row w g k _ _ _ h];grind
theorem BR.free(h:BR w g xs)(k):w.frozen? ⟨g,k,none⟩=false:=frozen_of_row w g k _ _ h
theorem BR.keep{l h}(f:BR w g xs)(k:Kept l h w O)(aN:g<l\/h<=g\/h<=l):BR O g xs:=by
 unfold BR;rw[k.block g f.lt xaa];exact f
theorem BR.keepC(f:BR w g xs)(k:Chg S w O)(aN:¬S g):BR O g xs:=by
 unfold BR;rw[k.block g f.lt aN];exact f
theorem BR.set(h:BR w g xs)(k x):BR (w.setCell ⟨g,k,none⟩ (.bool x)) g (xs.set k x):=by
 unfold BR at h⊢;rw[heap_setCell_same w g k _ _ _ h];simp[List.map_set]
theorem BR.made(w:World)(n):BR (w.alloc (.cells (madeCells #[.bool false] n) 4)) w.heap.size (List.replicate n false):=by
 unfold BR;rw[heap_alloc_new]
 have:(madeCells #[.bool false] n)=(List.map Value.bool (List.replicate n false)).toArray:=by
  apply Array.toList_inj.1;rw[toList_madeCells_one];simp
 rw[this]
theorem OX:(prog.info? 4).map (λi=>(i.zero,i.size,i.bytes))=some (some (.bool false),1,1):=by kernel_rfl
theorem MA(n:Nat)(w)(hn:n<=1099511627776):
  (Instr.makeSlice 58 (ih n) (ih n)).run prog w=.ok (ia w.heap.size n n) (w.alloc (.cells (madeCells #[.bool false] n) 4)):=by
 obtain⟨i,hi,cg,b8,cc⟩:=info_parts OX;have:=run_make w 58 4 i _ underlying58 hi cg .i64 .i64 n n xaa xaa (by grind) xaa;exact qcr
theorem VA.keepC(q:VA w g n vs)(k:Chg S w O)(aN:¬S g):VA O g n vs:=
 ⟨q.len,yak q.lt k.size,λj hj=>by
  have e:∀o,_:=λo=>k.cell (p:=⟨g,o,none⟩) q.lt aN
  obtain⟨c0,c1,c2,c3,c4,c5⟩:=q.at_ j hj
  exact⟨by grind,by grind,by grind,by grind,by grind,by grind⟩,λo=>by rw[k.frozen q.lt aN];exact q.free o⟩
theorem Chg.mono(h:Chg S w O)(aw:∀b,b<w.heap.size->S b->T b):Chg T w O:=
 ⟨h.os,h.tape,h.output,h.size,λk J hn=>h.block k J λc=>hn (aw k J c)⟩
theorem Chg.trans{a b}(h:Chg S a b)(k:Chg S b c):Chg S a c:=Chg.andThen h k
theorem Chg.new{a b}(h:Chg S a b)(k:Chg T b c)(bh:∀i,i<a.heap.size->T i->S i):Chg S a c:=
 ⟨k.os.trans h.os,k.tape.trans h.tape,k.output.trans h.output,yao h.size k.size,λi hi hn=>(k.block i (yak hi h.size) (λc=>hn (bh i hi c))).trans (h.block i hi hn)⟩
theorem fh(w g o v)(h:S g):Chg S w (w.setCell ⟨g,o,none⟩ v):=
 (eU (lo:=g) (hi:=g+1) w ⟨g,o,none⟩ v yac).chg1 h
end
section
abbrev eL(l:List UInt8):Value:=.string ⟨l.toArray⟩
theorem sS(a b:List UInt8):(⟨a.toArray⟩:ByteArray)++⟨b.toArray⟩=⟨(a++b).toArray⟩:=by
 apply ByteArray.ext;simp
def gJ(n:Nat):List UInt8:=if n<10 then[UInt8.ofNat (48+n)]else gJ (n/10)++gJ (n%10)
termination_by n
decreasing_by all_goals omega
theorem jC(n):(gJ n).length<=n+1:=by
 rw[gJ];split
 ·simp
 rw[yal];have B:=jC (n/10);have N:(gJ (n%10)).length=1:=by rw[gJ,iv xaa];rfl
 omega
termination_by n
decreasing_by all_goals omega
theorem fX(l:List UInt8):(⟨l.toArray⟩:ByteArray).size=l.length:=by simp[ByteArray.size]
theorem I2:∀k:Fin 10,({data:=#[48,49,50,51,52,53,54,55,56,57]}:ByteArray).extract k.1 (k.1+1)=⟨#[UInt8.ofNat (48+k.1)]⟩:=by decide+kernel
theorem uN(n:Nat)(hn:n<10)(w):Calls prog 89 #[ih n] w λe O=>e=.returned (eL (gJ n))/\O=w:=by
 have aN:gJ n=[UInt8.ofNat (48+n)]:=by rw[gJ,iv hn]
 have aH:({data:=#[48,49,50,51,52,53,54,55,56,57]}:ByteArray).extract n (n+1)=⟨(gJ n).toArray⟩:=by rw[aN];exact I2 ⟨n,hn⟩
 unfold eL;generalize (⟨(gJ n).toArray⟩:ByteArray)=b at aH;have aW:(n:Int)<10:=xaa;have bd:IntKind.i64.wrap ((n:Int)+1)=(n:Int)+1:=by rw[IntKind.wrap_i64];omega
 have cu:0<=(n:Int):=xaa;clear aN;go_enter func89,ntmps89;go_wp2;go_ret;exact⟨rfl,rfl⟩
theorem yB:∀(aZ n:Nat),n<=aZ->n<=1000000->∀w:World,Calls prog 89 #[ih n] w λe O=>e=.returned (eL (gJ n))/\O=w:=by
 intro aZ;induction aZ with
 |zero=>
  intro n h _ w;exact uN n xaa w
 |succ aZ Z=>
  intro n h hb w;by_cases hn:n<10
  ·exact uN n hn w
  have aN:gJ n=gJ (n/10)++gJ (n%10):=by rw[gJ,ip hn]
  have H1:V (∀w:World,Calls prog 89 #[ih ((n:Int)/10)] w λe O=>e=.returned (eL (gJ (n/10)))/\O=w):=Z (n/10) xaa xaa;have H2:V (∀w:World,Calls prog 89 #[ih ((n:Int)%10)] w λe O=>e=.returned (eL (gJ (n%10)))/\O=w):=Z (n%10) xaa xaa;have aW:¬((n:Int)<10):=xaa;unfold eL at H1 H2⊢;rw[aN,<-sS]
  have b5:¬(9223372036854775807<(⟨(gJ (n/10)).toArray⟩:ByteArray).size+(⟨(gJ (n%10)).toArray⟩:ByteArray).size):=by
   rw[fX,fX];have:=jC (n/10);have:=jC (n%10);omega
  generalize (⟨(gJ (n/10)).toArray⟩:ByteArray)=a at H1 b5;generalize (⟨(gJ (n%10)).toArray⟩:ByteArray)=b at H2 b5;clear Z aN;go_enter func89,ntmps89;go_wp2_with fail;refine yaj (H1.o w) ?_;rintro e aK ⟨rfl,rfl⟩;go_wp2_with fail;refine yaj (H2.o aK) ?_;rintro e ak ⟨rfl,rfl⟩;go_wp2_with fail;go_ret;exact⟨rfl,rfl⟩
end
section
attribute[local go_sem] eE eC eB
variable{q k p I P m1 l ad m3 ah base aI cap cap':Nat}{Q:Nat->Prop}{w F aq O ab:World}{r:Int}{y u:Vl}{af:List (List UInt8)}{H R':Option Nat}{R U K:Option Addr}{vs:List Vl}
theorem sT(a b):eY (a++b)=eY a+eY b:=by
 induction a with
 |nil=>simp[eY]
 |cons y ys Z=>simp[eY,Z];omega
abbrev eK(op n p q r:Int):Vl:=⟨op,n,p,q,r,0⟩
def yC(n p q:Int)(N:Nat):List Vl×Int:=if p=-1 then ([],q)else if q=-1 then ([],p)else ([eK 2 n p q 0],N)
def yD(n p q:Int)(N:Nat):List Vl×Int:=if q=-1 then ([],p)else if p=-1 then ([eK 6 n q 0 0],N)else ([eK 3 n p q 0],N)
def chM(n d p q:Int)(N:Nat):List Vl×Int:=
 if p=-1 then (if q=-1 then ([eK 1 n 0 0 0,eK 1 n 0 0 0,eK 8 n d N ((N+1:Nat):Int)],((N+2:Nat):Int))else ([eK 1 n 0 0 0,eK 8 n d N q],((N+1:Nat):Int)))
 else (if q=-1 then ([eK 1 n 0 0 0,eK 8 n d p N],((N+1:Nat):Int))else ([eK 8 n d p q],(N:Int)))
def yE(v:Vl)(ta tb:Int)(N:Nat):List Vl×Int:=
 if ta=-1 then (if tb=-1 then ([],-1)else ([eK 4 v.len v.a tb 0],(N:Int)))
 else (if tb=-1 then ([eK 4 v.len ta v.b 0],(N:Int))else ([eK 4 v.len ta v.b 0,eK 4 v.len v.a tb 0,eK 2 v.len N ((N+1:Nat):Int) 0],((N+2:Nat):Int)))
def yG(i:Int)(v:Vl)(ta tb:Int)(N:Nat):List Vl×Int:=
 if ta=-1 then (if tb=-1 then ([],-1)else ([eK 4 v.len i tb 0,eK 5 v.len N v.b 0,eK 6 v.len ((N+1:Nat):Int) 0 0],((N+2:Nat):Int)))
 else (if tb=-1 then ([eK 5 v.len ta v.b 0],(N:Int))else ([eK 5 v.len ta v.b 0,eK 4 v.len i tb 0,eK 5 v.len ((N+1:Nat):Int) v.b 0,eK 3 v.len N ((N+2:Nat):Int) 0],((N+3:Nat):Int)))
def mvM(i:Int)(v:Vl)(ta tb tc:Int)(N:Nat):List Vl×Int:=
 if ta=-1/\tb=-1/\tc=-1 then ([],-1)
 else if v.op=2 then yC v.len ta tb N
 else if v.op=3 then yD v.len ta tb N
 else if v.op=4 then yE v ta tb N
 else if v.op=5 then yG i v ta tb N
 else if v.op=7 then ([eK 3 v.len v.a v.b 0]++(chM v.len N ta tb (N+1)).1,(chM v.len N ta tb (N+1)).2)
 else if v.op=8 then (if tb=-1/\tc=-1 then ([],-1)else chM v.len v.a tb tc N)
 else if v.op=13 then ([eK 4 v.len ta i 0],(N:Int))
 else ([eK v.op v.len ta 0 v.c],(N:Int))
def ovs(v:Vl)(mv:List Int)(q j:Nat):Int:=if j<q then mv.getD (fld v j).toNat 0 else -1
theorem CF(v)(am:q<cnt v.op):(fp v).getD q 0=[v.a,v.b,v.c].getD q 0:=by
 simp_all[fp]
theorem I3(v)(am:q<3):fld v q=[v.a,v.b,v.c].getD q 0:=by
 rcases (by omega:q=0\/q=1\/q=2) with rfl|rfl|rfl<;>rfl
theorem two{b c}(h:¬(b=-1/\c=-1)):((b==-1)=false)\/((b==-1)=true/\(c==-1)=false):=by
 grind
def lh(k n:Nat):List Int:=List.replicate k (-1)++List.replicate (n-k) 0
theorem uO(k n)(h:k<=n):(lh k n).length=n:=by simp[lh];omega
theorem uP(n):lh n n=List.replicate n (-1):=by simp[lh]
theorem uQ{n}(h:k<n):(lh k n).set k (-1)=lh (k+1) n:=by
 apply List.ext_getElem?;intro j;unfold lh;grind
def jmv(vs0:List Vl)(i:Nat)(st:List Vl×List Int):List Vl×Int:=
 mvM (i:Int) (vs0.getD i i0) (ovs (vs0.getD i i0) st.2 (cnt (vs0.getD i i0).op) 0) (ovs (vs0.getD i i0) st.2 (cnt (vs0.getD i i0).op) 1) (ovs (vs0.getD i i0) st.2 (cnt (vs0.getD i i0).op) 2) st.1.length
def jst(vs0:List Vl)(x t:Nat):Nat->List Vl×List Int
 |0=>(vs0,(List.replicate vs0.length (-1)).set x (t:Int))
 |k+1=>((jst vs0 x t k).1++(jmv vs0 (x+1+k) (jst vs0 x t k)).1,(jst vs0 x t k).2.set (x+1+k) (jmv vs0 (x+1+k) (jst vs0 x t k)).2)
theorem wo(vs0 x t):∀k,(jst vs0 x t k).2.length=vs0.length
 |0=>by simp[jst]
 |k+1=>by simp[jst,wo vs0 x t k]
theorem wu(vs0 x t):∀k,∃r,(jst vs0 x t k).1=vs0++r
 |0=>⟨[],by simp[jst]⟩
 |k+1=>by
  obtain⟨r,h⟩:=wu vs0 x t k
  grind[jst]
theorem By(vs0 x t k){i}(hi:i<vs0.length):(jst vs0 x t k).1.getD i i0=vs0.getD i i0:=by
 obtain⟨r,h⟩:=wu vs0 x t k;grind
def Sz(k:Nat)(M:List Vl×Int):Prop:=M.1.length<=k/\0<=eY M.1/\eY M.1<=1000*(k:Int)
theorem iC{p}[Decidable p]{a b}(aB:Sz k a)(hb:Sz k b):Sz k (if p then a else b):=by
 grind
theorem AE:Sz k ([],r):=by grind[Sz,eY]
theorem wv{v}(J:1<=k)(aj:0<=v.len)(B:v.len<=1000):Sz k ([v],r):=by grind[Sz,eY]
theorem OY{v}(J:2<=k)(aj:0<=v.len)(B:v.len<=1000)(N:0<=u.len)(h3:u.len<=1000):Sz k ([v,u],r):=by grind[Sz,eY]
theorem MB{v}(J:3<=k)(aj:0<=v.len)(B:v.len<=1000)(N:0<=u.len)(h3:u.len<=1000)(bp:0<=y.len)(bU:y.len<=1000):Sz k ([v,u,y],r):=by grind[Sz,eY]
theorem PX{v z}(J:4<=k)(aj:0<=v.len)(B:v.len<=1000)(N:0<=u.len)(h3:u.len<=1000)(bp:0<=y.len)(bU:y.len<=1000)(bz:0<=z.len)(al:z.len<=1000):Sz k ([v,u,y,z],r):=by grind[Sz,eY]
theorem I4{v M}(h:Sz k M)(aj:0<=v.len)(B:v.len<=1000):Sz (k+1) ([v]++M.1,r):=by
 unfold Sz at*;grind[eY]
theorem LF{n d p q aZ}(aj:0<=n)(B:n<=1000):Sz 3 (chM n d p q aZ):=by
 unfold chM;exact iC (iC (MB xaa aj B aj B aj B) (OY xaa aj B aj B)) (iC (OY xaa aj B aj B) (wv xaa aj B))
theorem I5{M}(h:Sz k M)(J:k<=l):Sz l M:=by
 unfold Sz at*;omega
theorem EV(i v aA S aC aZ)(aj:0<=v.len)(B:v.len<=1000):Sz 4 (mvM i v aA S aC aZ):=by
 unfold mvM yC yD yE yG
 exact iC AE (iC (iC AE (iC AE (wv xaa aj B))) (iC (iC AE (iC (wv xaa aj B) (wv xaa aj B)))
  (iC (iC (iC AE (wv xaa aj B)) (iC (wv xaa aj B) (MB xaa aj B aj B aj B)))
  (iC (iC (iC AE (MB xaa aj B aj B aj B)) (iC (wv xaa aj B) (PX xaa aj B aj B aj B aj B)))
  (iC (I4 (LF aj B) aj B) (iC (iC AE (I5 (LF aj B) xaa)) (iC (wv xaa aj B) (wv xaa aj B))))))))
theorem sU(vs0 x t)(ag:∀k,k<vs0.length->1<=(vs0.getD k i0).len/\(vs0.getD k i0).len<=1000)(bv:0<=eY vs0)(bl:eY vs0<=50000):∀k,x+k<vs0.length->(jst vs0 x t k).1.length<=vs0.length+4*k/\0<=eY (jst vs0 x t k).1/\eY (jst vs0 x t k).1<=50000+4000*k
 |0,_=>by simp[jst];omega
 |k+1,J=>by
  have Z:=sU _ x t ag bv bl k xaa
  have aL:=ag (x+1+k) xaa
  have aD:=EV (x+1+k:Nat) (vs0.getD (x+1+k) i0) (ovs (vs0.getD (x+1+k) i0) (jst vs0 x t k).2 (cnt (vs0.getD (x+1+k) i0).op) 0) (ovs (vs0.getD (x+1+k) i0) (jst vs0 x t k).2 (cnt (vs0.getD (x+1+k) i0).op) 1) (ovs (vs0.getD (x+1+k) i0) (jst vs0 x t k).2 (cnt (vs0.getD (x+1+k) i0).op) 2) (jst vs0 x t k).1.length xaa xaa
  rw[jst]
  simp only[yal,sT]
  unfold jmv
  unfold Sz at aD
  omega
def jK(vs0:List Vl)(s x t:Nat):List Vl×Int:=
 if (jst vs0 x t (s-x)).2.getD s 0=-1 then ((jst vs0 x t (s-x)).1++[eK 1 (vs0.getD s i0).len 0 0 0],((jst vs0 x t (s-x)).1.length:Nat))else ((jst vs0 x t (s-x)).1,(jst vs0 x t (s-x)).2.getD s 0)
theorem mI:∀(vs:List Vl),(∀j,j<vs.length->0<=(vs.getD j i0).len)->0<=eY vs
 |[],_=>by simp[eY]
 |v::r,h=>by
  have aj:=h 0 xac
  have B:=mI r (λj hj=>h (j+1) yag)
  have e:(v::r).getD 0 i0=v:=rfl
  rw[e]at aj
  simp only[eY]
  omega
theorem ml{ins}(ok:okV ins vs k=true):∀q,q<cnt (vs.getD k i0).op->0<=fld (vs.getD k i0) q/\fld (vs.getD k i0) q<k:=λq am=>by
 by_cases aj:(vs.getD k i0).op=0
 ·grind[cnt]
 ·unfold okV at ok
  rw[ip aj]at ok
  simp only[Bool.and_eq_true]at ok
  have h:=List.all_eq_true.1 ok.2.1 _ (lJ (by rw[CA];exact am))
  have N:=of_decide_eq_true h
  grind[CF,I3,io]
def kq(vs:List Vl):Bool:=decide (2000<vs.length\/50000<eY vs)
theorem gq(w op n a b c):Calls prog 60 #[ih op,ih n,ih a,ih b,ih c] w λe O=>e=.returned (eK op n a b c).agg/\Kept 0 0 w O:=by
 go_enter func60,ntmps60;go_wp2_with fail;refine yaz (v:=(eK op n a b c).agg) (by simp[results,results60,go_sem]) rfl ⟨rfl,eA 0 0 w _⟩
theorem oJ(w n):Calls prog 83 #[ih n] w λe O=>e=.returned (eK 1 n 0 0 0).agg/\Kept 0 0 w O:=by
 go_enter func83,ntmps83;go_wp2_with fail;refine yaz (v:=(eK 1 n 0 0 0).agg) (by simp[results,results83,go_sem]) rfl ⟨rfl,eA 0 0 w _⟩
theorem iV(w a1 K a3 Y c1 ae c2 aa c3)(hn:ae<=1000000):Calls prog 66 #[eX a1 Y c1 K ae c2 a3 aa c3] w λe O=>e=.returned (ih ((ae:Int)-1))/\Kept 0 0 w O:=by
 go_enter func66,ntmps66;go_wp2;go_ret;exact⟨rfl,eA 0 0 w _⟩
theorem I6{aK a7 d2 v o}(_h:w.ownsRow base 79 6 d2 vs.length (fU vs))(k:Kept 0 0 w aK)
  (Z:a7.ownsRow base 79 6 (ia aI (vs.length+1) cap') (vs.length+1) (fU vs++v.cells)) (bp:(aK.alloc o).grownBy a7 d2.ownBlock) (bf:d2.ownBlock=some aI\/aI=(aK.alloc o).heap.size):
  a7.ownsRow base 79 6 (ia aI (vs.length+1) cap') (vs.length+1) (fU (vs++[v]))/\StQ (λ_=>False) d2.ownBlock w (some aI) a7:=by
 refine⟨by rw[mi,qe];exact Z,⟨bp.os.trans k.os,bp.tape.trans k.tape,bp.output.trans k.output,?_,λi hi hn=>?_⟩,?_⟩
 ·have B:=bp.size;have N:=k.size;simp at B;omega
 ·have N:=k.size;rw[bp.block i yag (λc=>hn (.inr c.symm)),Below.heap_alloc _ o i xaa];exact k.block i hi xaa
 rcases bf with e|e
 ·grind
 have N:=k.size;exact .inr ⟨_,rfl,by rw[e];simp;omega⟩
theorem StQ.new{h}(s:StQ Q H w R' O)(k:Kept l h O ab)(ag:w.heap.size<=l):StQ Q H w R' ab:=
 ⟨⟨k.os.trans s.chg.os,k.tape.trans s.chg.tape,k.output.trans s.chg.output,yao s.chg.size k.size,λi hi hn=>by
   rw[k.block i (yak hi s.chg.size) xaa]
   exact s.chg.block i hi hn⟩,s.row⟩
theorem rm(w R K U m1 ad cap m3 ah base vs v)(h:w.ownsRow base 79 6 (.slice K vs.length cap) vs.length (fU vs))(hb:base<=w.heap.size)(hn:vs.length<=1000000):
  Calls prog 59 #[eX R m1 ad K vs.length cap U m3 ah,v.agg] w λe O=>∃aI cap',e=.returned (eX R m1 ad (some ⟨aI,0,none⟩) (vs.length+1) cap' U m3 ah)/\O.ownsRow base 79 6 (ia aI (vs.length+1) cap') (vs.length+1) (fU (vs++[v]))/\StQ (λ_=>False) (Value.slice K vs.length cap).ownBlock w (some aI) O:=by
 obtain⟨bY,hi,cg,b8,cc⟩:=info_parts yo;have ap:=eA 0 0 w (fB R m1 ad K vs.length cap U m3 ah);have aC:=eA 0 0 (w.alloc (fB R m1 ad K vs.length cap U m3 ah)) (iK v.op v.len v.a v.b v.c v.k);have a9:=eA 0 0 ((w.alloc (fB R m1 ad K vs.length cap U m3 ah)).alloc (iK v.op v.len v.a v.b v.c v.k)) fO;have bR:=((ib w (.slice R m1 ad) (.slice K vs.length cap) (.slice U m3 ah)).keep aC).keep a9
 have f:∀o,(((w.alloc (fB R m1 ad K vs.length cap U m3 ah)).alloc (iK v.op v.len v.a v.b v.c v.k)).alloc fO).frozen? ⟨w.heap.size,o,none⟩=false:=λo=>by
  rw[(aC.trans a9).frozen (p:=⟨w.heap.size,o,none⟩) xac xaa]
  simp
 have ai:=(qf (w.alloc (fB R m1 ad K vs.length cap U m3 ah)) v).keep xac a9 yaa;have bL:=iU ((w.alloc (fB R m1 ad K vs.length cap U m3 ah)).alloc (iK v.op v.len v.a v.b v.c v.k));rw[show((w.alloc (fB R m1 ad K vs.length cap U m3 ah)).alloc (iK v.op v.len v.a v.b v.c v.k)).heap.size=w.heap.size+1+1 by simp]at bL;rw[show(w.alloc (fB R m1 ad K vs.length cap U m3 ah)).heap.size=w.heap.size+1 by simp]at ai;have J:=(ap.trans aC).trans a9;have bi:=eN h J;have bF:V _:=h;have HK:V _:=J;have bu:V _:=bL;have bD:V _:=bR;have ak:V _:=f;obtain⟨_,bG,bn,p2⟩:=bR;obtain⟨B,bf,bb,bc,C,au⟩:=ai;have eq:=yao hb J.size;clear ap aC a9 f bL J h;go_enter func59,ntmps59;go_wp2_with (first|(at_builtin;refine wpList_append_lies _ rfl _ _ 71 rfl base 79 bY (qL 0 0 0 0 0 0) 6 48 underlying71 hi cg b8 cc rfl xab _ _ (fU vs) rfl (bi.alloc _) ⟨w.heap.size+1+1+1,0,none⟩ 1 1 v.cells rfl rfl ?c1 ?c2 xab ?c3 ?c4 ?c5 _ rfl ?_))
 case c1=>
  have bz:=Bw (((w.alloc (fB R m1 ad K vs.length cap U m3 ah)).alloc (iK v.op v.len v.a v.b v.c v.k)).alloc fO) v 0;rw[show(((w.alloc (fB R m1 ad K vs.length cap U m3 ah)).alloc (iK v.op v.len v.a v.b v.c v.k)).alloc fO).heap.size=w.heap.size+1+1+1 by simp]at bz;exact bz
 case c2=>exact EP v
 case c3=>unfold maxLen;omega
 case c4=>omega
 case c5=>simp;omega
 intro g9 cap9 a7 Z bp br cr;have d:(((w.alloc (fB R m1 ad K vs.length cap U m3 ah)).alloc (iK v.op v.len v.a v.b v.c v.k)).alloc fO).heap.size=w.heap.size+1+1+1:=by simp
 have bE:(Value.slice K vs.length cap).ownBlock=some g9\/g9=((((w.alloc (fB R m1 ad K vs.length cap U m3 ah)).alloc (iK v.op v.len v.a v.b v.c v.k)).alloc fO).alloc (.cells #[ih v.op,ih v.len,ih v.a,ih v.b,ih v.c,.float .f64 v.k] 79)).heap.size:=br.imp id (λe=>by rw[e];simp);obtain⟨ar,aQ⟩:=I6 (v:=v) bF.o HK.o Z bp bE;have bw:∀I,w.heap.size<=I->(Value.slice K vs.length cap).ownBlock≠some I:=λI aZ e=>i4 ((eF bF.o e).2)
 have t:g9<w.heap.size\/w.heap.size+1+1+1<g9:=by
  rcases bE with e|e
  ·exact .inl (eF bF.o e).2
  right;rw[e];simp
 have bC:=jS (m:=0) bp (jx d) (bw w.heap.size yad) bG;have bH:=jS (m:=0) bp (jx d) (bw w.heap.size yad) bn;have bJ:=jS (m:=0) bp (jx d) (bw w.heap.size yad) p2;have z:=far2 (m:=0) bp (jx d) (bw w.heap.size yad) (ak.o 1);obtain⟨_,ay,Y,ae,ag,g,b6⟩:=bu.o;have a8:=jS (m:=0) bp (jx d) (bw (w.heap.size+1+1) xaa) ay;have aJ:=jS (m:=0) bp (jx d) (bw (w.heap.size+1+1) xaa) Y;have aP:=jS (m:=0) bp (jx d) (bw (w.heap.size+1+1) xaa) ae;have bX:=far2 (m:=0) bp (jx d) (bw (w.heap.size+1+1) xaa) ag;have aV:=far2 (m:=0) bp (jx d) (bw (w.heap.size+1+1) xaa) g;have bg:=far2 (m:=0) bp (jx d) (bw (w.heap.size+1+1) xaa) b6;have R1:V _:=ar;have R2:V _:=aQ;clear ar aQ Z bp br bE bw bi bF HK bu bD ak bG bn p2 B bf bb bc C au eq d ay Y ae ag g b6 cr;go_wp2_with fail
 have b:∀I,(I=w.heap.size\/I=w.heap.size+1+1)->(ia g9 (vs.length+1) cap9).ownBlock≠some I:=λI aZ e=>by
  have a2:g9=I:=by simpa[Value.ownBlock] using e
  omega
 have cy:=eH (o:=2) (u:=.slice U m3 ah) (eH (o:=1) (u:=ia g9 (vs.length+1) cap9) (eH (o:=0) (u:=.slice R m1 ad) (eH (o:=1) (u:=ia g9 (vs.length+1) cap9) R1.o (b w.heap.size (.inl rfl))) (b (w.heap.size+1+1) (.inr rfl))) (b (w.heap.size+1+1) (.inr rfl))) (b (w.heap.size+1+1) (.inr rfl));have j:(a7.setCell ⟨w.heap.size,1,none⟩ (ia g9 (vs.length+1) cap9)).cell? ⟨w.heap.size+1+1,0,none⟩=_:=(eG _ _ _ _ _ _ (.inl xaa)).trans a8;have m:(a7.setCell ⟨w.heap.size,1,none⟩ (ia g9 (vs.length+1) cap9)).cell? ⟨w.heap.size+1+1,1,none⟩=_:=(eG _ _ _ _ _ _ (.inl xaa)).trans aJ;have x:(a7.setCell ⟨w.heap.size,1,none⟩ (ia g9 (vs.length+1) cap9)).cell? ⟨w.heap.size+1+1,2,none⟩=_:=(eG _ _ _ _ _ _ (.inl xaa)).trans aP;obtain⟨a0,av,aT⟩:=fd (a7.setCell ⟨w.heap.size,1,none⟩ (ia g9 (vs.length+1) cap9)) (w.heap.size+1+1) _ _ _ j m x (.slice R m1 ad) (ia g9 (vs.length+1) cap9) (.slice U m3 ah);have ax:=StQ.new R2.o (eU (lo:=w.heap.size) (hi:=w.heap.size+1) a7 ⟨w.heap.size,1,none⟩ (ia g9 (vs.length+1) cap9) yac) yad;have aF:=StQ.new ax (fy (a7.setCell ⟨w.heap.size,1,none⟩ (ia g9 (vs.length+1) cap9)) (w.heap.size+1+1) (.slice R m1 ad) (ia g9 (vs.length+1) cap9) (.slice U m3 ah)) xaa;refine yaz (v:=eX R m1 ad (some ⟨g9,0,none⟩) (vs.length+1) cap9 U m3 ah) (by simp[results,results59,go_sem,a0,av,aT]) rfl ⟨g9,cap9,rfl,cy,aF⟩
theorem CG(w a1 K a3 Y c1 ae c2 aa c3 a n)(h:0<=a):
  Calls prog 131 #[eX a1 Y c1 K ae c2 a3 aa c3,ih a,ih n] w λe O=>e=.returned (.tuple #[eX a1 Y c1 K ae c2 a3 aa c3,ih a])/\Kept 0 0 w O:=by
 go_enter func131,ntmps131;go_wp2_with fail;refine yaz (v:=.tuple #[eX a1 Y c1 K ae c2 a3 aa c3,ih a]) (by simp[results,results131,go_sem]) rfl ⟨rfl,(eA 0 0 w _).trans (eA 0 0 _ _)⟩
structure SG(w:World)(P:Nat)(b1:Option Addr)(m1 e1:Nat)(b3:Option Addr)(m3 e3:Nat)(vs:List Vl)(base:Nat)(R:Option Nat)(a2:Option Addr)(cap:Nat):Prop where
 lt:P<w.heap.size
 free:∀o,w.frozen? ⟨P,o,none⟩=false
 c0:w.cell? ⟨P,0,none⟩=some (.slice b1 m1 e1)
 c1:w.cell? ⟨P,1,none⟩=some (.slice a2 vs.length cap)
 c2:w.cell? ⟨P,2,none⟩=some (.slice b3 m3 e3)
 own:w.ownsRow base 79 6 (.slice a2 vs.length cap) vs.length (fU vs)
 row:(Value.slice a2 vs.length cap).ownBlock=R
 ne:R≠some P
 sz:base<=w.heap.size
theorem SG.keep(h:SG w P R m1 ad U m3 ah vs base H K cap)(k:Kept 0 0 w O):SG O P R m1 ad U m3 ah vs base H K cap:=
 have e:∀o,O.cell? ⟨P,o,none⟩=w.cell? ⟨P,o,none⟩:=λo=>k.cell (p:=⟨P,o,none⟩) h.lt xaa
 ⟨yak h.lt k.size,λo=>by rw[k.frozen h.lt xaa];exact h.free o,jn e h.c0,jn e h.c1,jn e h.c2,eN h.own k,h.row,h.ne,yao h.sz k.size⟩
def fk(w:World)(P:Nat)(x y z:Value):World:=((w.setCell ⟨P,0,none⟩ x).setCell ⟨P,1,none⟩ y).setCell ⟨P,2,none⟩ z
theorem SG.put{w aK ak P m1 ad m3 ah base cap aI cap' R U K vs v H}(h:SG w P R m1 ad U m3 ah vs base H K cap)(k:Kept 0 0 w aK)
  (own:ak.ownsRow base 79 6 (ia aI (vs.length+1) cap') (vs.length+1) (fU (vs++[v]))) (s:StQ (λ_=>False) H aK (some aI) ak):
  SG (fk ak P (.slice R m1 ad) (ia aI (vs.length+1) cap') (.slice U m3 ah)) P R m1 ad U m3 ah (vs++[v]) base (some aI) (some ⟨aI,0,none⟩) cap'/\StQ (λi=>i=P) H w (some aI) (fk ak P (.slice R m1 ad) (ia aI (vs.length+1) cap') (.slice U m3 ah)):=by
 have aY:=h.lt;have b9:=k.size
 have bc:aI≠P:=by
  rcases s.row with e|⟨r,e,au⟩
  ·exact λc=>h.ne (by rw[<-e,c])
  grind
 have hb:=s.chg.block P xaa (by rintro (c|c);exact c;exact h.ne c);have e:∀o,_:=λo=>(World.cell?_of_block hb).trans (k.cell (p:=⟨P,o,none⟩) h.lt xaa);have x:∀o,_:=λo=>(World.frozen?_of_block hb).trans (k.frozen (p:=⟨P,o,none⟩) h.lt xaa);obtain⟨a8,aJ,aP⟩:=fd _ P _ _ _ ((e 0).trans h.c0) ((e 1).trans h.c1) ((e 2).trans h.c2) (.slice R m1 ad) (ia aI (vs.length+1) cap') (.slice U m3 ah);have aS:=fy ak P (.slice R m1 ad) (ia aI (vs.length+1) cap') (.slice U m3 ah);have ag:(vs++[v]).length=vs.length+1:=by simp
 have b:(ia _ (vs.length+1) cap').ownBlock≠some P:=λc=>bc (by simpa[Value.ownBlock] using c);refine⟨⟨?_,λo=>?_,a8,jn ag aJ,aP,?_,rfl,λc=>bc (by simpa using c),?_⟩,⟨?_,?_,?_,?_,λi hi hn=>?_⟩,?_⟩
 ·have:=aS.size;have:=s.chg.size;unfold fk;omega
 ·unfold fk;simp[x o,h.free o]
 ·rw[ag];exact eH (eH (eH own b) b) b
 ·have:=aS.size;have:=s.chg.size;have:=h.sz;unfold fk;omega
 ·exact aS.os.trans (s.chg.os.trans k.os)
 ·exact aS.tape.trans (s.chg.tape.trans k.tape)
 ·exact aS.output.trans (s.chg.output.trans k.output)
 ·have:=aS.size;have:=s.chg.size;unfold fk;omega
 ·unfold fk;rw[aS.block i (i4 s.chg.size) (λc=>hn (.inl xaa)),s.chg.block i xaa (by grind)];exact k.block i hi xaa
 rcases s.row with c|⟨r,c,au⟩<;>grind
theorem SG.call{w aK P m1 ad m3 ah base cap R U K vs H}(h:SG w P R m1 ad U m3 ah vs base H K cap)(k:Kept 0 0 w aK)(v)(hn:vs.length<=1000000):
  Calls prog 59 #[eX R m1 ad K vs.length cap U m3 ah,v.agg] aK λe ak=>∃aI cap',e=.returned (eX R m1 ad (some ⟨aI,0,none⟩) (vs.length+1) cap' U m3 ah)/\
   (∃u,ak.cell? ⟨P,0,none⟩=some u)/\(∃u,ak.cell? ⟨P,1,none⟩=some u)/\(∃u,ak.cell? ⟨P,2,none⟩=some u)/\(∀o,ak.frozen? ⟨P,o,none⟩=false)/\
   V (SG (fk ak P (.slice R m1 ad) (ia aI (vs.length+1) cap') (.slice U m3 ah)) P R m1 ad U m3 ah (vs++[v]) base (some aI) (some ⟨aI,0,none⟩) cap'/\StQ (λi=>i=P) H w (some aI) (fk ak P (.slice R m1 ad) (ia aI (vs.length+1) cap') (.slice U m3 ah))):=by
 have B:=h.keep k;refine(rm _ _ _ _ _ _ _ _ _ _ _ v B.own B.sz hn).mono ?_;rintro e ak ⟨aI,cap',rfl,own,s⟩;rw[h.row]at s;have hb:=s.chg.block P B.lt (by rintro (c|c);exact c;exact h.ne c);have e:∀o,_:=λo=>World.cell?_of_block (a:=⟨P,o,none⟩) hb;have x:∀o,_:=λo=>World.frozen?_of_block (a:=⟨P,o,none⟩) hb;exact⟨_,_,rfl,⟨_,(e 0).trans B.c0⟩,⟨_,(e 1).trans B.c1⟩,⟨_,(e 2).trans B.c2⟩,λo=>by rw[x];exact B.free o,h.put k own s⟩
theorem RB.stq{W bE R a6}(t:RB W p bE R a6)(s:StQ (λi=>i=P) H W R' F)(aA:p≠P)(X:H≠some p):RB F p bE R a6:=by
 have hn:¬((λi=>i=P) p\/H=some p):=by grind
 have e:∀o,_:=λo=>s.chg.cell (p:=⟨p,o,none⟩) t.sz hn;have f:∀o,_:=λo=>s.chg.frozen (p:=⟨p,o,none⟩) t.sz hn;exact⟨yak t.sz s.chg.size,jn e t.q0,jn e t.q1,jn e t.q2,jn f t.f0,jn f t.f1,jn f t.f2⟩
theorem StQ.keepQ(s:StQ Q H w R' O)(k:Kept 0 0 O ab):StQ Q H w R' ab:=s.new (l:=w.heap.size) (h:=w.heap.size) (k.mono λ_ _ c=>by omega) yad
theorem StQ.drop{x}(s:StQ (λi=>i=P) H x R' F)(k:Kept 0 0 w x)(hP:w.heap.size<=P):StQ (λ_=>False) H w R' F:=
 ⟨⟨s.chg.os.trans k.os,s.chg.tape.trans k.tape,s.chg.output.trans k.output,yao k.size s.chg.size,λi hi hn=>by
   rw[s.chg.block i (yak hi k.size) (by grind)]
   exact k.block i hi xaa⟩,by
   rcases s.row with c|⟨r,c,au⟩
   ·exact .inl c
   ·exact .inr ⟨r,c,yao k.size au⟩⟩
theorem StQ.far(s:StQ Q H w (some aI) F)(aZ:I<w.heap.size)(X:H≠some I):aI≠I:=by
 rcases s.row with c|⟨r,c,au⟩<;>grind
theorem CH(w R K U m1 ad cap m3 ah base vs a n)(h:w.ownsRow base 79 6 (.slice K vs.length cap) vs.length (fU vs))(hb:base<=w.heap.size)(hn:vs.length<=900000)(aB:a<0):
  Calls prog 131 #[eX R m1 ad K vs.length cap U m3 ah,ih a,ih n] w λe O=>∃aI cap',e=.returned (.tuple #[eX R m1 ad (some ⟨aI,0,none⟩) (vs.length+1) cap' U m3 ah,ih (vs.length:Nat)])/\O.ownsRow base 79 6 (ia aI (vs.length+1) cap') (vs.length+1) (fU (vs++[eK 1 n 0 0 0]))/\StQ (λ_=>False) (Value.slice K vs.length cap).ownBlock w (some aI) O:=by
 have ap:=eA 0 0 w (fB R m1 ad K vs.length cap U m3 ah);have aC:=eA 0 0 (w.alloc (fB R m1 ad K vs.length cap U m3 ah)) fO;have bR:=(ib w _ _ _).keep aC
 have a5:SG _ _ _ _ _ _ _ _ _ _ _ _ _:=
  ⟨bR.sz,λo=>by simp,bR.q0,bR.q1,bR.q2,eN h (ap.trans aC),rfl,λe=>i4 ((eF h e).2),by simp;omega⟩
 have bL:=iU (w.alloc (fB R m1 ad K vs.length cap U m3 ah));rw[show(w.alloc _).heap.size=w.heap.size+1 by simp]at bL;have bu:V _:=bL;have aG:V _:=a5;have HK:V _:=ap.trans aC;have HR:V (∀I,w.heap.size<=I->(Value.slice K _ _).ownBlock≠some I):=λI aZ e=>i4 ((eF h e).2)
 have bG:=a5.c0;have bn:=a5.c1;have p2:=a5.c2;have bT:=a5.free;clear h ap aC bR a5 bL;go_enter func131,ntmps131;go_upto_region 3 with fail;generalize (w.alloc _).alloc _=x at bu aG HK bG bn p2 bT⊢;go_cut [] (λcq=>∃aI cap',V (SG cq w.heap.size R m1 ad U m3 ah (vs++[eK 1 n 0 0 0]) base (some aI) (some ⟨aI,0,none⟩) cap'/\StQ (λi=>i=w.heap.size) (Value.slice K vs.length cap).ownBlock x (some aI) cq))
 case first=>
  go_region_with (first
   |(go_at_call 59;refine yaj (SG.call aG.o ((eD x).trans ap) (eK 1 n 0 0 0) xaa) ?_;rintro e ak ⟨aI,cap',rfl,⟨u0,bo⟩,⟨u1,ar⟩,⟨u2,aQ⟩,aj,b0⟩)
   |(go_at_call 83;refine yaj (oJ _ _) ?_;rintro e aK ⟨rfl,ap⟩;obtain⟨_,_,a0,av,aT,_,_,_,_⟩:=SG.keep aG.o ((eD x).trans ap)))
  all_goals (go_wp2_with fail;go_meet;exact⟨aI,cap',b0⟩)
 case rest=>
  obtain⟨aI,cap',b0⟩:=hcut;have ag:(vs++[eK 1 n 0 0 0]).length=vs.length+1:=by simp
  obtain⟨aV,bg,bq,bB,cF,bD,bI,bN,ck⟩:=b0.o.1;have d:(Value.slice K _ _).ownBlock≠some (w.heap.size+1):=λe=>HR.o _ xaa e;have br:V _:=RB.stq bu.o b0.o.2 xaa d;rw[ag]at bB bD;have HO:V _:=bD;clear aV bg bD bI bN ck bG bn p2 bT;have be:V _:=λW=>iV W R (some ⟨aI,0,none⟩) U m1 ad (vs.length+1) cap' m3 ah xaa;rw[show((vs.length+1:Nat):Int)-1=vs.length by omega]at be;have f:V (∀W,Kept 0 0 _ W->SG W _ _ _ _ _ _ _ _ _ _ _ _/\RB W _ _ _ _):=λW k=>⟨b0.o.1.keep k,RB.keep br.o k⟩
  have am:V (∀W,Kept 0 0 _ W->(fk W _ (.slice R m1 ad) (ia aI (vs.length+1) cap') (.slice U m3 ah)).ownsRow _ _ 6 _ _ _/\StQ _ _ w _ (fk W _ (.slice R m1 ad) (ia aI (vs.length+1) cap') (.slice U m3 ah))):=λW k=>by
   have bc:=b0.o.2.far bu.o.sz d
   have b:(ia _ (vs.length+1) cap').ownBlock≠some _:=λc=>bc (by simpa[Value.ownBlock] using c)
   refine⟨eH (eH (eH (eN HO.o k) b) b) b,?_⟩
   exact((b0.o.2.drop HK.o yad).keepQ k).new (fy W (w.heap.size+1) _ _ _) xaa
  clear bu aG br HO HR d;go_upto_region 4 with fail
  go_region_with (first
   |(go_at_call 66;refine yaj (be.o _) ?_;rintro e aM ⟨rfl,a9⟩;obtain⟨⟨_,_,a0,av,aT,_,_,_,_⟩,⟨_,bm,aW,bd,bC,bH,bJ⟩⟩:=f.o aM ((eD wc).trans a9);rw[ag]at av;have cz:V _:=am.o aM ((eD wc).trans a9)))
  all_goals
   go_wp2_with fail
   obtain⟨a8,aJ,aP⟩:=fd aM (w.heap.size+1) _ _ _ bm aW bd (.slice R m1 ad) (ia aI (vs.length+1) cap') (.slice U m3 ah)
   refine yaz (v:=.tuple #[eX R m1 ad (some ⟨aI,0,none⟩) (vs.length+1) cap' U m3 ah,ih (vs.length:Nat)]) (by simp[results,results131,go_sem,a8,aJ,aP]) rfl ⟨aI,cap',rfl,cz.o.1,cz.o.2⟩
def WB(W:World)(B:Nat)(v:Value)(ss:List (List UInt8)):Prop:=W.ownsRow B 9 1 v ss.length (ss.map λl=>eL l)
theorem WB.keep{W v}(f:WB W I v af)(k:Kept 0 0 W F):WB F I v af:=eN f k
theorem WB.blk{W v}(f:WB W I v af){g}(h:v.ownBlock=some g):I<=g/\g<W.heap.size:=eF f h
theorem I7:(prog.info? 9).map (λi=>(i.zero,i.size,i.bytes))=some (some (.string ⟨#[]⟩),1,16):=by kernel_rfl
theorem uv:∃bY,prog.info? 9=some bY/\bY.zero=some (.string ⟨#[]⟩)/\bY.size=1/\bY.bytes=16:=by
 have h:=I7;simp_all
def WC(w:World)(a:Addr)(ss:List (List UInt8)):Prop:=∀j x,ss[j]? =some x->w.cell? (a.add j)=some (eL x)
theorem WC.news{a}(h:WC w a af):∀j u,(af.map λl=>eL l)[j]? =some u->w.cell? (a.add j)=some u:=by
 intro j u G;rw[List.getElem?_map]at G;cases e:af[j]? with
 |none=>grind
 |some x=>rw[e]at G;cases G;exact h j x e
theorem WB.at_{W v}(f:WB W I v af)(h:0<af.length):∃g cap,v=ia g af.length cap/\I<=g/\g<W.heap.size/\WC W ⟨g,0,none⟩ af/\af.length<=cap:=by
 have ai:=f;rcases f.2 with⟨_,c⟩|⟨g,cap,ao,e,R,a6,U,_,ct,b2⟩
 ·omega
 have az:g<W.heap.size:=by grind
 refine⟨g,_,e,R,az,λj x aH=>?_,U⟩;subst e;exact World.ownsRow.cells ai rfl j _ (by grind)
theorem sV(w){bS rest o a Q}(am:o.guard=none)(s x)
  (aR:o.op=.call {callee:=.builtin .append,args:=#[s,x],argTypes:=#[135,135]})
  (I) (v) (af) (aw:a.eval s=v) (bi:WB w I v af)
  (al) (m c) (ys) (aH:a.eval x=.slice (some al) m c) (ag:ys.length=m) (d:WC w al ys)
  (aD:0<m) (f:af.length+m<=1000000) (ae:I<=w.heap.size)
  (h:∀g cap n O,n=(af++ys).length->WB O I (ia g n cap) (af++ys)->Chg (λb=>v.ownBlock=some b) w O->(v.ownBlock=some g\/g=w.heap.size)->wpList prog bS Q rest (a.put o.dst (ia g n cap)) O):wpList prog bS Q (o::rest) a w:=by
 obtain⟨bY,hi,cg,b8,cc⟩:=uv;refine wpList_append_lies w am s x _ aR I 9 _ _ 1 _ underlying135 hi cg b8 cc rfl xab v _ _ aw bi _ m c _ aH (by grind) d.news ?_ aD (by unfold maxLen;omega) xaa ae _ rfl ?_
 ·intro u G;obtain⟨x,_,rfl⟩:=List.mem_map.1 G;rfl
 intro g cap O B N h3 _;have e:af.length+m=(af++ys).length:=by grind
 rw[e]at B⊢;refine h g _ _ _ rfl ?_ (fA N) h3;unfold WB;grind
def MvP(w:World)(b1:Option Addr)(m1 e1:Nat)(b3:Option Addr)(m3 e3:Nat)(vs:List Vl)(base:Nat)(R:Option Nat)(M:List Vl×Int)(e:Ending)(w':World):Prop:=
 ∃a2' cap' R',e=.returned (.tuple #[eX b1 m1 e1 a2' (vs++M.1).length cap' b3 m3 e3,.int .i64 M.2])/\w'.ownsRow base 79 6 (.slice a2' (vs++M.1).length cap') (vs++M.1).length (fU (vs++M.1))/\(Value.slice a2' (vs++M.1).length cap').ownBlock=R'/\StQ (λ_=>False) R w R' w'
theorem At.stq{W o v}(t:At W p o v)(ag:p<W.heap.size)(s:StQ (λi=>i=P) H W R' F)(aA:p≠P)(X:H≠some p):At F p o v:=by
 have hn:¬((λi=>i=P) p\/H=some p):=by grind
 have e:∀o,_:=λo=>s.chg.cell (p:=⟨p,o,none⟩) ag hn;obtain⟨aU,ax,aF,bv,cF,cK⟩:=t;exact⟨by grind,by grind,by grind,by grind,by grind,by grind⟩
theorem StQ.seq{f W d}(a:StQ Q H w R' W)(b:StQ f R' W d F)(h:∀i,i<w.heap.size->¬f i):StQ Q H w d F where
 chg:=⟨b.chg.os.trans a.chg.os,b.chg.tape.trans a.chg.tape,b.chg.output.trans a.chg.output,yao a.chg.size b.chg.size,λk J hn=>by
  rw[b.chg.block k (yak J a.chg.size) ?_]
  ·exact a.chg.block k J hn
  ·rintro (c|c)
   ·grind
   ·rcases a.row with e|⟨r,e,au⟩<;>grind⟩
 row:=by
  rcases b.row with e|⟨r,e,au⟩
  ·rw[e];exact a.row
  exact .inr ⟨r,e,yao a.chg.size au⟩
structure MS(w W:World)(b1:Option Addr)(m1 e1:Nat)(b3:Option Addr)(m3 e3:Nat)(vs:List Vl)(v:Vl)(base:Nat)(R R':Option Nat)(a2:Option Addr)(cap:Nat):Prop where
 g:SG W w.heap.size b1 m1 e1 b3 m3 e3 vs base R' a2 cap
 b:RB W (w.heap.size+1) (.slice none 0 0) (.slice none 0 0) (.slice none 0 0)
 v:At W (w.heap.size+1+1) 0 v
 lt:w.heap.size+1+1<W.heap.size
 n1:R'≠some (w.heap.size+1)
 n2:R'≠some (w.heap.size+1+1)
 s:StQ (λ_=>False) R w R' W
theorem MS.keep{W v}(h:MS w W R m1 ad U m3 ah vs v base H R' K cap)(k:Kept 0 0 W F):MS w F R m1 ad U m3 ah vs v base H R' K cap:=
 ⟨h.g.keep k,h.b.keep k,h.v.keep h.lt k yaa,yak h.lt k.size,h.n1,h.n2,h.s.keepQ k⟩
theorem MS.start(v)(h:w.ownsRow base 79 6 (.slice K vs.length cap) vs.length (fU vs))(hb:base<=w.heap.size):
  MS w (((w.alloc (fB R m1 ad K vs.length cap U m3 ah)).alloc fO).alloc (iK v.op v.len v.a v.b v.c v.k)) R m1 ad U m3 ah vs v base (Value.slice K vs.length cap).ownBlock (Value.slice K vs.length cap).ownBlock K cap:=by
 have ap:=eA 0 0 w (fB R m1 ad K vs.length cap U m3 ah);have aC:=eA 0 0 (w.alloc (fB R m1 ad K vs.length cap U m3 ah)) fO;have a9:=eA 0 0 ((w.alloc (fB R m1 ad K vs.length cap U m3 ah)).alloc fO) (iK v.op v.len v.a v.b v.c v.k);have bR:=((ib w _ _ _).keep aC).keep a9;have X:∀I,w.heap.size<=I->(Value.slice K _ _).ownBlock≠some I:=λI aZ e=>i4 ((eF h e).2)
 have bL:=iU (w.alloc (fB R m1 ad K vs.length cap U m3 ah));rw[show(w.alloc _).heap.size=w.heap.size+1 by simp]at bL;have ai:=qf ((w.alloc (fB R m1 ad K vs.length cap U m3 ah)).alloc fO) v;rw[show((w.alloc _).alloc _).heap.size=w.heap.size+1+1 by simp]at ai;exact⟨⟨bR.sz,λo=>by rw[(aC.trans a9).frozen xac xaa];simp,bR.q0,bR.q1,bR.q2,eN h ((ap.trans aC).trans a9),rfl,X _ yad,by simp;omega⟩,bL.keep a9,ai,by simp,X _ xaa,X _ xaa,(StQ.refl _ _ w).keepQ ((ap.trans aC).trans a9)⟩
theorem MS.next{W ak v}(h:MS w W R m1 ad U m3 ah vs v base H R' K cap)(k:Kept 0 0 W aq)
  (own:ak.ownsRow base 79 6 (ia aI (vs.length+1) cap') (vs.length+1) (fU (vs++[u]))) (s:StQ (λ_=>False) R' aq (some aI) ak):
  (∃u,ak.cell? ⟨w.heap.size,0,none⟩=some u)/\(∃u,ak.cell? ⟨w.heap.size,1,none⟩=some u)/\(∃u,ak.cell? ⟨w.heap.size,2,none⟩=some u)/\(∀o,ak.frozen? ⟨w.heap.size,o,none⟩=false)/\At ak (w.heap.size+1+1) 0 v/\
   V (MS w (fk ak w.heap.size (.slice R m1 ad) (ia aI (vs.length+1) cap') (.slice U m3 ah)) R m1 ad U m3 ah (vs++[u]) v base H (some aI) (some ⟨aI,0,none⟩) cap'):=by
 have B:=h.g.keep k;obtain⟨ax,aF⟩:=h.g.put k own s;have hb:=s.chg.block _ B.lt (by rintro (c|c);exact c;exact h.g.ne c);have e:∀o,_:=λo=>World.cell?_of_block (a:=⟨w.heap.size,o,none⟩) hb;have x:∀o,_:=λo=>World.frozen?_of_block (a:=⟨w.heap.size,o,none⟩) hb
 have aL:At ak (w.heap.size+1+1) 0 v:=by
  have ag:=yak h.lt k.size;have am:∀o,_:=λo=>s.chg.cell (p:=⟨_,o,none⟩) ag (by rintro (c|c);exact c;exact h.n2 c);obtain⟨aU,ax,aF,bv,cF,cK⟩:=h.v.keep h.lt k yaa;exact⟨by grind,by grind,by grind,by grind,by grind,by grind⟩
 exact⟨⟨_,(e 0).trans B.c0⟩,⟨_,(e 1).trans B.c1⟩,⟨_,(e 2).trans B.c2⟩,λo=>by rw[x];exact B.free o,aL,ax,h.b.stq aF xaa h.n1,h.v.stq h.lt aF xaa h.n2,yak h.lt aF.chg.size,
  λc=>aF.far (Nat.lt_trans yaf h.lt) h.n1 (by simpa using c),λc=>aF.far h.lt h.n2 (by simpa using c),h.s.seq aF (λi hi c=>by omega)⟩
theorem MS.call{w W aq m1 ad m3 ah base cap R U K vs v H R'}(h:MS w W R m1 ad U m3 ah vs v base H R' K cap)(k:Kept 0 0 W aq)(u)(hn:vs.length<=1000000):
  Calls prog 59 #[eX R m1 ad K vs.length cap U m3 ah,u.agg] aq λe ak=>∃aI cap',e=.returned (eX R m1 ad (some ⟨aI,0,none⟩) (vs.length+1) cap' U m3 ah)/\
   (∃u,ak.cell? ⟨w.heap.size,0,none⟩=some u)/\(∃u,ak.cell? ⟨w.heap.size,1,none⟩=some u)/\(∃u,ak.cell? ⟨w.heap.size,2,none⟩=some u)/\(∀o,ak.frozen? ⟨w.heap.size,o,none⟩=false)/\At ak (w.heap.size+1+1) 0 v/\
   V (MS w (fk ak w.heap.size (.slice R m1 ad) (ia aI (vs.length+1) cap') (.slice U m3 ah)) R m1 ad U m3 ah (vs++[u]) v base H (some aI) (some ⟨aI,0,none⟩) cap'):=by
 have B:=h.g.keep k;refine(rm _ _ _ _ _ _ _ _ _ _ _ u B.own B.sz hn).mono ?_;exact xim
theorem MS.orNone{W v}(h:MS w W R m1 ad U m3 ah vs v base H R' K cap)(k:Kept 0 0 W aq)(a n)(aB:a<0)(hn:vs.length<=900000):
  Calls prog 131 #[eX R m1 ad K vs.length cap U m3 ah,ih a,ih n] aq λe ak=>∃aI cap',e=.returned (.tuple #[eX R m1 ad (some ⟨aI,0,none⟩) (vs.length+1) cap' U m3 ah,ih (vs.length:Nat)])/\
   (∃u,ak.cell? ⟨w.heap.size,0,none⟩=some u)/\(∃u,ak.cell? ⟨w.heap.size,1,none⟩=some u)/\(∃u,ak.cell? ⟨w.heap.size,2,none⟩=some u)/\(∀o,ak.frozen? ⟨w.heap.size,o,none⟩=false)/\At ak (w.heap.size+1+1) 0 v/\
   V (MS w (fk ak w.heap.size (.slice R m1 ad) (ia aI (vs.length+1) cap') (.slice U m3 ah)) R m1 ad U m3 ah (vs++[eK 1 n 0 0 0]) v base H (some aI) (some ⟨aI,0,none⟩) cap'):=by
 have B:=h.g.keep k;refine(CH _ _ _ _ _ _ _ _ _ _ _ a n B.own B.sz hn aB).mono ?_;exact xim
theorem MS.orSome{W v}(h:MS w W R m1 ad U m3 ah vs v base H R' K cap)(k:Kept 0 0 W aq)(a n)(aB:0<=a):
  Calls prog 131 #[eX R m1 ad K vs.length cap U m3 ah,ih a,ih n] aq λe ak=>e=.returned (.tuple #[eX R m1 ad K vs.length cap U m3 ah,ih a])/\
   (∃u,ak.cell? ⟨w.heap.size,0,none⟩=some u)/\(∃u,ak.cell? ⟨w.heap.size,1,none⟩=some u)/\(∃u,ak.cell? ⟨w.heap.size,2,none⟩=some u)/\(∀o,ak.frozen? ⟨w.heap.size,o,none⟩=false)/\At ak (w.heap.size+1+1) 0 v/\
   V (MS w (fk ak w.heap.size (.slice R m1 ad) (.slice K vs.length cap) (.slice U m3 ah)) R m1 ad U m3 ah vs v base H R' K cap):=by
 refine(CG _ _ _ _ _ _ _ _ _ _ a n aB).mono ?_;rintro e ak ⟨rfl,aC⟩;have N:=h.keep (k.trans aC);have aS:=fy ak w.heap.size (.slice R m1 ad) (.slice K vs.length cap) (.slice U m3 ah);obtain⟨a8,aJ,aP⟩:=fd _ _ _ _ _ N.g.c0 N.g.c1 N.g.c2 (.slice R m1 ad) (.slice K vs.length cap) (.slice U m3 ah);have b:(Value.slice K vs.length cap).ownBlock≠some w.heap.size:=jn N.g.row N.g.ne
 have bv:∀I o,I≠w.heap.size->I<ak.heap.size->(fk ak _ _ _ _).cell? _=ak.cell? ⟨I,o,none⟩:=λI o aZ ag=>aS.cell ag (by grind);have x:∀I o,I≠w.heap.size->I<ak.heap.size->(fk ak _ _ _ _).frozen? _=ak.frozen? ⟨I,o,none⟩:=λI o aZ ag=>aS.frozen ag (by grind);obtain⟨aL,bm,aW,bd,bC,bH,bJ⟩:=N.b;obtain⟨B,bf,bb,bc,C,au⟩:=N.v
 refine⟨rfl,⟨_,N.g.c0⟩,⟨_,N.g.c1⟩,⟨_,N.g.c2⟩,N.g.free,N.v,⟨yak N.g.lt aS.size,λo=>?_,a8,aJ,aP,eH (eH (eH N.g.own b) b) b,N.g.row,N.g.ne,yao N.g.sz aS.size⟩,
  ⟨yak aL aS.size,by grind,by grind,by grind,by grind,by grind,by grind⟩,
  ⟨by rw[bv _ _ xaa N.lt];exact B,by rw[bv _ _ xaa N.lt];exact bf,by rw[bv _ _ xaa N.lt];exact bb,by rw[bv _ _ xaa N.lt];exact bc,by rw[bv _ _ xaa N.lt];exact C,by rw[bv _ _ xaa N.lt];exact au⟩,yak N.lt aS.size,N.n1,N.n2,N.s.new aS yad⟩
 unfold fk;simp[N.g.free o]
theorem MS.fin{W vs0 v M}(h:MS w W R m1 ad U m3 ah vs v base H R' K cap)(k:Kept 0 0 W F)(aL:vs=vs0++M.1):
  MvP w R m1 ad U m3 ah vs0 base H M (.returned (.tuple #[eX R m1 ad K vs.length cap U m3 ah,ih M.2])) (fk F (w.heap.size+1) (.slice R m1 ad) (.slice K vs.length cap) (.slice U m3 ah)):=by
 exact xep
theorem lN(w:World)(P I o x y z)(h:I≠P):(((w.setCell ⟨P,0,none⟩ x).setCell ⟨P,1,none⟩ y).setCell ⟨P,2,none⟩ z).cell? ⟨I,o,none⟩=w.cell? ⟨I,o,none⟩:=by
 exact xhq
end
section
def pq(n:Nat):Code->Option Code
 |.region i ops d=>if i=n then some (.region i ops d)else none
 |.seq a b=>match pq n a with
  |some c=>some c
  |none=>pq n b
 |.cond _ a b=>match pq n a with
  |some c=>some c
  |none=>pq n b
 |.block _ c=>pq n c
 |.scope c=>pq n c
 |.loop c=>pq n c
 |_=>none
noncomputable def PY (n:Nat):Code:=(Tryz.f130.body.bind (pq n)).getD .skip
theorem fo{P}{c:Code}{bA Q a w}(h:c.wp P (Exit.then bA λ_ _ _=>False) a w):c.wp P (Exit.then bA Q) a w:=by
 exact xjd
variable{w W:World}{R U K:Option Addr}{m1 ad cap m3 ah base a2 i:Nat}{vs:List Vl}{v:Vl}{aZ:Int}{H R':Option Nat}
structure MvH(w:World)(cap base g2 i:Nat)(vs:List Vl)(v:Vl):Prop where
 h:w.ownsRow base 79 6 (.slice (some ⟨g2,0,none⟩) vs.length cap) vs.length (fU vs)
 hb:base<=w.heap.size
 hn:vs.length<=800000
 hi:i<vs.length
 hv:At w g2 (i*6) v
theorem MvH.op(ab:MvH w cap base a2 i vs v)(R U m1 ad m3 ah):At w a2 (i*6) v/\0<=(i:Int)/\(i:Int)<vs.length/\a2<w.heap.size/\∃x,
  V (((w.alloc (fB R m1 ad (some ⟨a2,0,none⟩) vs.length cap U m3 ah)).alloc fO).alloc (iK v.op v.len v.a v.b v.c v.k)=x)/\vs.length<=800000/\V (MS w x R m1 ad U m3 ah vs v base (some a2) (some a2) (some ⟨a2,0,none⟩) cap)/\V (w.ownsRow base 79 6 (ia a2 vs.length cap) vs.length (fU vs)):=
 ⟨ab.hv,by omega,i4 ab.hi,(eF ab.h (k:=a2) rfl).2,_,rfl,ab.hn,MS.start v ab.h ab.hb,ab.h⟩
theorem MS.lst(h:MS w W R m1 ad U m3 ah vs v base H R' K cap)(hn:vs.length<=1000000)(bL:(vs.length:Int)-1=aZ):Calls prog 66 #[eX R m1 ad K vs.length cap U m3 ah] W λe O=>e=.returned (ih aZ)/\V (MS w O R m1 ad U m3 ah vs v base H R' K cap):=
 (iV W R K U m1 ad vs.length cap m3 ah hn).mono λ_ _ q=>⟨bL ▸ q.1,h.keep q.2⟩
def MpR(w:World)(b1:Option Addr)(m1 e1:Nat)(b3:Option Addr)(m3 e3:Nat)(vs:List Vl)(v:Vl)(base:Nat)(R:Option Nat)(x:Vl)(W':World):Prop:=
 ∃us g' cap',V (us=vs++[x]/\us.length=vs.length+1)/\us.length<=vs.length+1/\V (MS w W' b1 m1 e1 b3 m3 e3 us v base R (some g') (some ⟨g',0,none⟩) cap')
def MfK(R:World->Prop)(p0 p1 p2 p3 p4 p5 p6 p7 p8 p9 p10 p12 p13 p14 p15 p16 p17 p18 p19 q11:Value)(K:Act->World->Prop):Prop:=∀{a b c d e f g h i j k l m n o p q r s t u v w x y z A B C D E F G H I J L M N O P Q S T U Vaa W X Y Z aa ab ad ae af ag ah ai aj ak al am an ao ap aq ar au av aw ax ay az aA aB aC aD aE aF aG aH aI aJ aK aL aM aN aO aP aQ aR aS aT aU aV aW aX aY aZ a0 a1 a2 a3 a4 a5 a6 a7 a8 a9 ba bb bc bd be bf bg bh bi bj bk bl bm bn bo bp bq br bs bt bu bv bw bx bz bA bB bC bD bE bF bG bH bI bJ bK bL bM bN bO bP bQ bR bS bT bU bV bW bX bY bZ b0 b1 b2 b3 b4 b5 b6 b7 b8 b9 ca cb cc cd ce cf cg ch ci cj ck cl cm cn co cp cq cr cs ct cu cv cw cx cy cz cA cB cC cD cE cF cG cH cI cJ cK cL cM cN cO cP cQ cR cS cT cU cV cW cX cY cZ c0 c1 c2 c3 c4 c5 c6 c7 c8 c9 da db dc dd de df:Value} (W':World),R W'->K ⟨#[p0,p1,p2,p3,p4,p5,p6,p7,p8,p9,p10,q11,p12,p13,p14,p15,p16,p17,p18,p19,a,b,c,d,e,f,g,h,i,j,k,l,m,n,o,p,q,r,s,t,u,v,w,x,y,z,A,B,C,D,E,F,G,H,I,J,L,M,N,O,P,Q,S,T,U,Vaa,W,X,Y,Z,aa,ab,ad,ae,af,ag,ah,ai,aj,ak,al,am,an,ao,ap,aq,ar,au,av,aw,ax,ay,az,aA,aB,aC,aD,aE,aF,aG,aH,aI,aJ,aK,aL,aM,aN,aO,aP,aQ,aR,aS,aT,aU,aV,aW,aX,aY,aZ,a0,a1,a2,a3,a4,a5,a6,a7,a8,a9,ba,bb,bc,bd,be,bf,bg,bh,bi,bj,bk,bl,bm,bn,bo,bp,bq,br,bs,bt,bu,bv,bw,bx,bz,bA,bB,bC,bD,bE,bF,bG,bH,bI,bJ,bK,bL,bM,bN,bO,bP,bQ,bR,bS,bT,bU,bV,bW,bX,bY,bZ,b0,b1,b2,b3,b4,b5,b6,b7,b8,b9,ca,cb,cc,cd,ce,cf,cg,ch,ci,cj,ck,cl,cm,cn,co,cp,cq,cr,cs,ct,cu,cv,cw,cx,cy,cz,cA,cB,cC,cD,cE,cF,cG,cH,cI,cJ,cK,cL,cM,cN,cO,cP,cQ,cR,cS,cT,cU,cV,cW,cX,cY,cZ,c0,c1,c2,c3,c4,c5,c6,c7,c8,c9,da,db,dc,dd,de,df],[]⟩ W'
def MfC(n:Nat)(W:World)(R:World->Prop)(a b c d e f g h i j k u l m o p q r s t v:Value):Prop:=
 ∀{K:Act->World->Prop}{w x y z A B C D E F G H I J L M N O P Q S T U Vaa X Y Z aa ab ad ae af ag ah ai aj ak al am an ao ap aq ar au av aw ax ay az aA aB aC aD aE aF aG aH aI aJ aK aL aM aN aO aP aQ aR aS aT aU aV aW aX aY aZ a0 a1 a2 a3 a4 a5 a6 a7 a8 a9 ba bb bc bd be bf bg bh bi bj bk bl bm bn bo bp bq br bs bt bu bv bw bx bz bA bB bC bD bE bF bG bH bI bJ bK bL bM bN bO bP bQ bR bS bT bU bV bW bX bY bZ b0 b1 b2 b3 b4 b5 b6 b7 b8 b9 ca cb cc cd ce cf cg ch ci cj ck cl cm cn co cp cq cr cs ct cu cv cw cx cy cz cA cB cC cD cE cF cG cH cI cJ cK cL cM cN cO cP cQ cR cS cT cU cV cW cX cY cZ c0 c1 c2 c3 c4 c5 c6 c7 c8 c9 da db dc dd de df dg dh di dj dk dl dm dn dp dq dr ds dt du dv dw dx dy dz dA dB dC dD:Value},MfK R a b c d e f g h i j k l m o p q r s t v K->Code.wp prog (PY n) (Exit.then K λ_ _ _=>False) ⟨#[a,b,c,d,e,f,g,h,i,j,k,u,l,m,o,p,q,r,s,t,w,x,y,z,A,B,C,D,E,F,G,H,I,J,L,M,N,O,P,Q,S,T,U,Vaa,X,Y,Z,aa,ab,ad,ae,af,ag,ah,ai,aj,ak,al,am,an,ao,ap,aq,ar,au,av,aw,ax,ay,az,aA,aB,aC,aD,aE,aF,aG,aH,aI,aJ,aK,aL,aM,aN,aO,aP,aQ,aR,aS,aT,aU,aV,aW,aX,aY,aZ,a0,a1,a2,a3,a4,a5,a6,a7,a8,a9,ba,bb,bc,bd,be,bf,bg,bh,bi,bj,bk,bl,bm,bn,bo,bp,bq,br,bs,bt,bu,bv,bw,bx,bz,bA,bB,bC,bD,bE,bF,bG,bH,bI,bJ,bK,bL,bM,bN,bO,bP,bQ,bR,bS,bT,bU,bV,bW,bX,bY,bZ,b0,b1,b2,b3,b4,b5,b6,b7,b8,b9,ca,cb,cc,cd,ce,cf,cg,ch,ci,cj,ck,cl,cm,cn,co,cp,cq,cr,cs,ct,cu,cv,cw,cx,cy,cz,cA,cB,cC,cD,cE,cF,cG,cH,cI,cJ,cK,cL,cM,cN,cO,cP,cQ,cR,cS,cT,cU,cV,cW,cX,cY,cZ,c0,c1,c2,c3,c4,c5,c6,c7,c8,c9,da,db,dc,dd,de,df,dg,dh,di,dj,dk,dl,dm,dn,dp,dq,dr,ds,dt,du,dv,dw,dx,dy,dz,dA,dB,dC,dD],[]⟩ W
