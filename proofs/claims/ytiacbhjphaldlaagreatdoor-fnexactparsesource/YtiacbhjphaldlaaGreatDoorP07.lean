import Derived.Test.YtiacbhjphaldlaaGreatDoorP05
namespace Go.Proofs.Z
open Tryz
set_option maxRecDepth 1000000
set_option maxHeartbeats 0
open Go.RowKit Flt
variable{o v cap}
attribute[local go_sem] dI dG dF
variable{aa w bn D:World}{S:Nat->Prop}{e base g bz P n aJ l au h b n1 aO m aI aE:Nat}{R:Option Nat}{a a1 a2 a3:Option Addr}{G:List Value}{vs:List Vl}{ins outs:List Int}
structure Chg(S:Nat->Prop)(w w':World):Prop where
 os:w'.os=w.os
 tape:w'.tape=w.tape
 output:w'.output=w.output
 size:w.heap.size<=w'.heap.size
 block:∀k,k<w.heap.size->¬S k->w'.heap[k]? =w.heap[k]?
theorem Chg.cell(h:Chg S w D){p}(aB:p.block<w.heap.size)(V:¬S p.block):D.cell? p=w.cell? p:=World.cell?_of_block (w:=w) (h.block p.block aB V)
theorem Chg.frozen(h:Chg S w D){p}(aB:p.block<w.heap.size)(V:¬S p.block):D.frozen? p=w.frozen? p:=World.frozen?_of_block (w:=w) (h.block p.block aB V)
theorem Kept.chg(h:Kept 0 0 w D):Chg S w D:=⟨h.os,h.tape,h.output,h.size,λk H _=>h.block k H xaa⟩
theorem Chg.kept{i1}(k:Kept 0 0 i1 w)(h:Chg S w D)(aZ:∀i,S i->i1.heap.size<=i):Kept 0 0 i1 D:=
 ⟨h.os.trans k.os,h.tape.trans k.tape,h.output.trans k.output,yan k.size h.size,λi hi _=>(h.block i (yaj hi k.size) (λc=>by grind)).trans (k.block i hi xaa)⟩
def f9:List Vl->List Value
 |[]=>[]
 |v::r=>v.cells++f9 r
theorem lL(a b):f9 (a++b)=f9 a++f9 b:=by
 induction a<;>grind[f9]
theorem oS(v):f9 [v]=v.cells:=by simp[f9]
theorem wV(a):(f9 a).length=a.length*6:=by
 induction a<;>grind[f9,yap,Vl.cells]
theorem uZ:∀(a:List Vl) (k j:Nat),k<a.length->j<6->(f9 a)[k*6+j]? =(a.getD k h7).cells[j]?
 |[],k,j,H,_=>by simp at H
 |x::r,0,j,_,aK=>by
  grind[f9,Vl.cells]
 |x::r,k+1,j,H,aK=>by
  have:(x::r).getD (k+1) h7=r.getD k _:=rfl
  rw[this,f9,yaq (by grind[Vl.cells,yap])]
  have e:(k+1)*6+j-x.cells.length=k*6+j:=by grind[Vl.cells]
  rw[e]
  exact uZ r k j (by grind) aK
theorem jX{W}(h:W.ownsRow base 74 6 v n (f9 vs))(V:0<n)(ab:vs.length=n):
  ∃g cap,v=hZ g n cap/\base<=g/\g<W.heap.size/\n<=cap/\VA W g n vs:=by
 obtain⟨_,c⟩|⟨g,cap,bp,rfl,L,bi,U,_,aF,ah⟩:=h.2
 ·omega
 have aG:g<W.heap.size:=by grind
 have key:∀k j,k<n->j<6->W.cell? _=(vs.getD k _).cells[j]?:=λk j H aK=>by
  rw[cell_of_row W g _ _ _ _ bi,<-Array.getElem?_toList]
  have:(bp.toList.take (n*6))[k*6+j]? =(f9 vs)[k*6+j]?:=by rw[ah]
  rw[List.getElem?_take_of_lt xaa]at this
  rw[this]
  exact uZ vs k j xaa aK
 refine⟨g,_,rfl,L,aG,U,ab,aG,λk H=>?_,λo=>frozen_of_row W g o _ _ bi⟩;exact⟨key k 0 H xaa,key k 1 H xaa,key k 2 H xaa,key k 3 H xaa,key k 4 H xaa,key k 5 H xaa⟩
structure BS(w:World)(P:Nat)(u1 u3:Value)(vs:List Vl)(c:Int)(base:Nat)(R:Option Nat)(vv:Value):Prop where
 lt:P<w.heap.size
 free:∀o,w.frozen? ⟨P,o,none⟩=false
 c0:w.cell? ⟨P,0,none⟩=some u1
 c1:w.cell? ⟨P,1,none⟩=some vv
 c2:w.cell? ⟨P,2,none⟩=some u3
 c3:w.cell? ⟨P,3,none⟩=some (.int .i64 c)
 own:w.ownsRow base 74 6 vv vs.length (f9 vs)
 row:vv.ownBlock=R
 ne:R≠some P
 sz:base<=w.heap.size
structure StQ(i1:Nat->Prop)(R:Option Nat)(w:World)(R':Option Nat)(w':World):Prop where
 chg:Chg (λi=>i1 i\/R=some i) w w'
 row:R'=R\/∃r,R'=some r/\w.heap.size<=r
theorem StQ.refl(i1 R w):StQ i1 R w R w:=⟨⟨rfl,rfl,rfl,yac,λ_ _ _=>rfl⟩,.inl rfl⟩
theorem StQ.trans{i1 R' f aA}(a:StQ i1 R w R' D)(b:StQ i1 R' D f aA):StQ i1 R w f aA where
 chg:=⟨b.chg.os.trans a.chg.os,b.chg.tape.trans a.chg.tape,b.chg.output.trans a.chg.output,yan a.chg.size b.chg.size,λk H V=>by
  rw[b.chg.block k (yaj H a.chg.size) ?_]
  ·exact a.chg.block k H V
  ·rintro (c|c)
   ·grind
   ·obtain e|⟨r,e,ah⟩:=a.row<;>grind⟩
 row:=by
  exact xgk
abbrev Stp(P:Nat)(R:Option Nat)(w:World)(R':Option Nat)(w':World):Prop:=StQ (λi=>i=P) R w R' w'
theorem dO{size}{W:World}(h:W.ownsRow base e size v n G){k}(H:v.ownBlock=some k):base<=k/\k<W.heap.size:=by
 obtain⟨rfl,_⟩|⟨g,cap,bp,rfl,L,bi,_⟩:=h.2<;>grind[Value.ownBlock]
theorem iB(w:World)(v):At (w.alloc (ir v.op v.len v.a v.b v.c v.k)) w.heap.size 0 v:=by
 refine⟨?_,?_,?_,?_,?_,?_⟩;all_goals first|(go_simp;done)|(simp;done)
theorem kY{size}{W:World}(h:W.ownsRow base e size v n G)(m){o}:((W.alloc o).drewN m).ownsRow base e size v n G:=h.alloc o
theorem wW{w:World}:(w.alloc o).heap[w.heap.size]? =some o:=by
 unfold World.alloc;simp
theorem Al(w:World)(v:Vl)(m):∀j u,v.cells[j]? =some u->((w.alloc (.cells #[h0 v.op,h0 v.len,h0 v.a,h0 v.b,h0 v.c,.float .f64 v.k] 74)).drewN m).cell? ((⟨w.heap.size,0,none⟩:Addr).add j)=some u:=λj u bd=>
 World.news_of_block (w:=w.alloc (.cells #[h0 v.op,h0 v.len,h0 v.a,h0 v.b,h0 v.c,.float .f64 v.k] 74)) (t:=74) (fr:=(0,0)) (cs:=#[h0 v.op,h0 v.len,h0 v.a,h0 v.b,h0 v.c,.float .f64 v.k]) wW j u bd
theorem jk{X}(aG:((aa.alloc o).drewN m).grownBy bn X){u}(I:b<aa.heap.size)(ah:X≠some b)(aj:aa.cell? ⟨b,aO,none⟩=some u):bn.cell? ⟨b,aO,none⟩=some u:=by
 have i1:b<((aa.alloc o).drewN m).heap.size:=by show b<(aa.alloc o).heap.size;simp;omega
 rw[aG.cell_far _ i1 (λc=>ah c.symm)];exact dZ (dE 0 0 _ o) I aj
theorem far2{X}(aG:((aa.alloc o).drewN m).grownBy bn X)(I:b<aa.heap.size)(ah:X≠some b)(aj:aa.frozen? ⟨b,aO,none⟩=false):bn.frozen? ⟨b,aO,none⟩=false:=by
 have i1:b<((aa.alloc o).drewN m).heap.size:=by show b<(aa.alloc o).heap.size;simp;omega
 rw[aG.frozen_far _ i1 (λc=>ah c.symm)];show(aa.alloc o).frozen? _=_;rw[(dE 0 0 _ o).frozen I xaa];exact aj
theorem dP{size u}{W:World}(h:W.ownsRow base e size v n G)(F:v.ownBlock≠some P):(W.setCell ⟨P,o,none⟩ u).ownsRow base e size v n G:=by
 refine⟨h.1,h.2.imp id ?_⟩;rintro⟨g,cap,bp,K,L,bi,U⟩;refine⟨g,_,_,K,L,?_,U⟩;rw[Below.heap_setCell W _ u g (λc=>F (by rw[K,c];rfl))];exact bi
theorem BS.next{u1 u3 c Y b6 g9 cap9}(h:BS w P u1 u3 vs c base R Y)(aB:bn.ownsRow base 74 6 (hZ g9 (vs.length+1) cap9) (vs.length+1) (f9 vs++v.cells))(a0:(((w.alloc o).alloc b6).drewN m).grownBy bn Y.ownBlock)(ce:Y.ownBlock=some g9\/g9=(w.alloc o).heap.size+1)(f)(bB:f=c+v.len):
  ∃R' a5,BS ((bn.setCell ⟨P,1,none⟩ (hZ g9 (vs.length+1) cap9)).setCell ⟨P,3,none⟩ (h0 f)) P u1 u3 (vs++[v]) (c+v.len) base R' a5/\Stp P R w R' ((bn.setCell ⟨P,1,none⟩ (hZ g9 (vs.length+1) cap9)).setCell ⟨P,3,none⟩ (h0 f)):=by
 subst bB;have aV:=h.lt;have ai:(w.alloc o).heap.size=w.heap.size+1:=by simp
 have af:=dE 0 0 w o;have a9:P<(w.alloc o).heap.size:=xaa;have i:Y.ownBlock≠some P:=it h.row h.ne
 have aq:g9≠P:=by grind
 have bT:=jk a0 a9 i (dZ af aV h.c0);have bg:=jk a0 a9 i (dZ af aV h.c1);have a8:=jk a0 a9 i (dZ af aV h.c2);have bE:=jk a0 a9 i (dZ af aV h.c3)
 have r:w.heap.size+2<=bn.heap.size:=by
  have:=a0.size;have e:(((w.alloc o).alloc b6).drewN m).heap.size=w.heap.size+2:=by simp_all
  omega
 refine⟨some g9,hZ g9 (vs.length+1) cap9,?_,?_,?_⟩
 ·refine⟨by simp;omega,λb=>?_,?_,?_,?_,?_,?_,rfl,λe=>aq (by cases e;rfl),by simp;have:=h.sz;omega⟩
  ·have bi:=far2 a0 a9 i (by rw[af.frozen aV xaa];exact h.free b);simp[bi]
  ·rw[dR (.inr xaa),dR (.inr xaa)];exact bT
  ·rw[dR (.inr xaa)];exact eR bg
  ·rw[dR (.inr xaa),dR (.inr xaa)];exact a8
  ·exact eR (by rw[dR (.inr xaa)];exact bE)
  rw[yak,List.length_singleton,lL,oS];have p:(hZ _ (vs.length+1) cap9).ownBlock≠some P:=λe=>aq (by simpa[Value.ownBlock] using e);exact dP (dP aB p) p
 ·refine⟨a0.os,a0.tape,a0.output,by simp;omega,λk H V=>?_⟩;have j:k≠P:=λe=>V (.inl e);have q:some k≠Y.ownBlock:=λe=>V (.inr (by rw[<-h.row];grind));rw[Below.heap_setCell _ _ _ k j,Below.heap_setCell _ _ _ k j,a0.block k (by show k<((w.alloc o).alloc b6).heap.size;simp;omega) q];show((w.alloc o).alloc b6).heap[k]? =_;grind[Below.heap_alloc]
 obtain e|e:=ce
 ·exact .inl (iv e h.row)
 grind
theorem Dm(v:Vl):∀u∈v.cells,u.oneCell'=true:=λu bd=>by
 simp only[Vl.cells,List.mem_cons,List.not_mem_nil,or_false]at bd
 obtain rfl|rfl|rfl|rfl|rfl|rfl:=bd<;>rfl
theorem Dn(w P u1 u3 vs c base R Y v)(h:BS w P u1 u3 vs c base R Y)(V:vs.length<=1000000)(bd:-1000000000<=c)(bG:c<=1000000000)(s:-1000000000<=v.len)(co:v.len<=1000000000):
  Calls prog 179 #[ge P,v.agg] w λe D=>e=.returned (h0 (vs.length:Nat))/\(∃R' a5,BS D P u1 u3 (vs++[v]) (c+v.len) base R' a5/\Stp P R w R' D):=by
 obtain⟨bS,hi,ch,b6,ci⟩:=info_parts wQ;have aw:=Q h;have af:=dE 0 0 w (ir v.op v.len v.a v.b v.c v.k);have c1:=dZ af h.lt h.c1;have aW:=h.own.alloc (ir v.op v.len v.a v.b v.c v.k);have bR:=h.sz;have c3:=dZ af h.lt h.c3;have i:=h.free 3;rw[<-af.frozen h.lt xaa]at i;have bC:=h.free 1;rw[<-af.frozen h.lt xaa]at bC;have aV:=h.lt;have aD:=iB w v;have cd:=Q aD;obtain⟨bh,aH,aN,aM,aS,aC⟩:=aD;have bY:(w.alloc (ir v.op v.len v.a v.b v.c v.k)).heap.size=w.heap.size+1:=by simp
 have aF:M (Y.ownBlock≠some P/\Y.ownBlock≠some w.heap.size):=⟨it h.row h.ne,λe=>ih ((dO h.own e).2)⟩
 have o:IntKind.i64.wrap (c+v.len)=c+v.len:=by rw[IntKind.wrap_i64];omega
 clear h af;go_enter func179,ntmps179;go_wp2_with fail;generalize bN:w.alloc _=aa at c1 aW bh aH aN aM aS aC cd bY bC i c3⊢;have eb:=Q bY;have ah:base<=aa.heap.size:=xaa;have a9:P<aa.heap.size:=xaa;have f:w.heap.size<aa.heap.size:=xaa;clear bY
 go_region_law
  ((refine step_append_lies _ rfl (.tmp 10) (.tmp 12) 24 rfl base 74 bS (Dg 0 0 0 0 0 0) 6 48 underlying24 hi ch b6 ci rfl xab _ _ (f9 vs) (by simp[Act.eval]) (kY aW 1) ⟨aa.heap.size,0,none⟩ 1 1 v.cells (by simp[Act.eval]) rfl (Al _ _ _) (Dm v) xab (by unfold maxLen;omega) xaa yaf _ rfl ?_;intro g9 cap9 bn aB a0 bs cr;have bq:=jk a0 a9 aF.o.1 c1;have bZ:=far2 a0 a9 aF.o.1 bC;have ak:=jk a0 f aF.o.2 bh;have az:=jk a0 f aF.o.2 aH;have bF:=jk a0 f aF.o.2 aN;have cg:=jk a0 f aF.o.2 aM;have bE:=jk a0 f aF.o.2 aS;have cl:=jk a0 f aF.o.2 aC))
 all_goals
  have aE:=jk a0 a9 aF.o.1 c3
  have bP:=far2 a0 a9 aF.o.1 i
  rw[<-bN]at a0 bs
  have be:Y.ownBlock=some _\/g9=(w.alloc (ir v.op v.len v.a v.b v.c v.k)).heap.size+1:=bs.imp id (λe=>by rw[e];show((w.alloc _).alloc _).heap.size=_;simp)
  have bi:M _:=BS.next aw.o aB a0 be _ rfl
  have m3:(bn.setCell ⟨P,1,none⟩ (hZ g9 (vs.length+1) cap9)).cell? ⟨P,3,none⟩=some (h0 c):=by rw[dR (.inr xaa)];exact aE
  have m1:(bn.setCell ⟨P,1,_⟩ _).cell? _=some (hZ g9 (vs.length+1) cap9):=eR bq
  have bc:(bn.setCell ⟨P,1,none⟩ (hZ g9 (vs.length+1) cap9)).cell? ⟨w.heap.size,1,none⟩=some (h0 v.len):=by rw[dR (.inl xaa)];exact az
  have k:(bn.setCell ⟨P,1,none⟩ (hZ g9 (vs.length+1) cap9)).frozen? ⟨P,3,none⟩=false:=by simp[bP]
  clear aB a0 bs be aW aw cd bN bq ak az bF cg bE cl bh aH aN aM aS aC aE bP bZ bC i c1 c3
  generalize bn.setCell ⟨P,1,_⟩ _=L at m3 m1 bc k bi
  go_wp2_with fail
  go_region_law (fail)
  all_goals
   have j:(L.setCell ⟨P,3,none⟩ (h0 (c+v.len))).cell? ⟨P,1,none⟩=some (hZ g9 (vs.length+1) cap9):=by rw[dR (.inr xaa)];exact m1
   generalize L.setCell ⟨P,3,_⟩ _=aj at j bi
   clear m1 m3 bc k
   go_wp2
   go_ret
   obtain⟨R',a5,r1,bp⟩:=bi.o
   exact⟨by simp,_,_,⟨r1.lt,r1.free,r1.c0,r1.c1,r1.c2,r1.c3,r1.own,r1.row,r1.ne,r1.sz⟩,⟨⟨bp.chg.os,bp.chg.tape,bp.chg.output,bp.chg.size,bp.chg.block⟩,bp.row⟩⟩
theorem yR(w a){cap}(k):Calls prog 24 #[.slice a 0 cap,h0 k] w λe D=>e=.returned (h0 k)/\D=w:=by
 go_enter func24,ntmps24;exact xbo
theorem yT(w a){cap}(k):Calls prog 25 #[.slice a 0 cap,h0 k] w λe D=>e=.returned (h0 k)/\D=w:=by
 go_enter func25,ntmps25;exact xbo
theorem yU(w a){cap}(k):Calls prog 26 #[.slice a 0 cap,h0 k] w λe D=>e=.returned (h0 k)/\D=w:=by
 go_enter func26,ntmps26;exact xbo
theorem yV(w a){cap}(k):Calls prog 27 #[.slice a 0 cap,h0 k] w λe D=>e=.returned (h0 k)/\D=w:=by
 go_enter func27,ntmps27;exact xbo
def IZ(w:World)(g:Nat)(a:Option Addr)(n:Nat)(xs:List Int):Prop:=n=0\/(a=some ⟨g,0,none⟩/\IBk w g n xs)
def VZ(w:World)(g:Nat)(a:Option Addr)(n:Nat)(vs:List Vl):Prop:=n=0\/(a=some ⟨g,0,none⟩/\VA w g n vs)
theorem IZ.keep{G}(f:IZ w g a n G)(k:Kept l h w D)(aT:g<l\/h<=g\/h<=l):IZ D g a n G:=f.imp id λ⟨e,q⟩=>⟨e,q.keep k aT⟩
theorem VZ.keep{G}(f:VZ w g a n G)(k:Kept l h w D)(aT:g<l\/h<=g\/h<=l):VZ D g a n G:=f.imp id λ⟨e,q⟩=>⟨e,q.keep k aT⟩
def IM(w:World)(g:Nat)(a:Option Addr)(n:Nat)(k:Int):Prop:=∃ys,IZ w g a n ys/\∀i,i<n->ys.getD i 0=k+i
def VM(w:World)(g:Nat)(a:Option Addr)(n:Nat)(k:Int):Prop:=∃ys,VZ w g a n ys/\∀i,i<n->ys.getD i h7=vm (k+6*i)
theorem IM.keep{m}(f:IM w g a n m)(k:Kept l h w D)(aT:g<l\/h<=g\/h<=l):IM D g a n m:=by
 obtain⟨ys,z,J⟩:=f;exact⟨_,z.keep k aT,J⟩
theorem VM.keep{m}(f:VM w g a n m)(k:Kept l h w D)(aT:g<l\/h<=g\/h<=l):VM D g a n m:=by
 obtain⟨ys,z,J⟩:=f;exact⟨_,z.keep k aT,J⟩
theorem G0.keepT{W A p bK L bi}(t:G0 W p bK L bi)(k:Kept l h W A)(aT:p<l\/h<=p\/h<=l):G0 A p bK L bi:=by
 have e:∀o,_:=λo=>k.cell (p:=⟨p,o,none⟩) t.sz (by grind);exact⟨yaj t.sz k.size,it e t.q0,it e t.q1,it e t.q2⟩
theorem Do{w g n a}(k){G}(a0:IZ w g a n G)(aC:0<=k)(z:k<=1099511627776)(V:n<=1099511627776):
  Calls prog 24 #[.slice a n cap,h0 k] w λe D=>e=.returned (h0 (k+n))/\IM D g a n k/\Kept g (g+1) w D:=by
 obtain rfl|⟨rfl,a0⟩:=a0
 ·exact(yR w a k).mono λe D ⟨z,J⟩=>⟨by rw[z];simp,⟨[],.inl rfl,λi hi=>by omega⟩,by rw[J];exact Kept.refl _ _ _⟩
 exact(Lb w g n k a0 aC z V).mono λe D ⟨z,⟨ys,J,al⟩,bw⟩=>⟨z,⟨_,.inr ⟨rfl,J⟩,al⟩,bw⟩
theorem Lf{w g n a k G}(a0:VZ w g a n G)(aC:0<=k)(z:k<=1099511627776)(V:n<=1099511627776):
  Calls prog 25 #[.slice a n cap,h0 k] w λe D=>e=.returned (h0 (k+6*n))/\VM D g a n k/\Kept g (g+1) w D:=by
 obtain rfl|⟨rfl,a0⟩:=a0
 ·exact(yT w a k).mono λe D ⟨z,J⟩=>⟨by rw[z];simp,⟨[],.inl rfl,λi hi=>by omega⟩,by rw[J];exact Kept.refl _ _ _⟩
 exact(Ld w g n k a0 aC z V).mono λe D ⟨z,⟨ys,J,al⟩,bw⟩=>⟨z,⟨_,.inr ⟨rfl,J⟩,al⟩,bw⟩
theorem Dp{w g n a}(k)(a0:IM w g a n k)(aC:0<=k)(z:k<=1099511627776)(V:n<=1099511627776):
  Calls prog 26 #[.slice a n cap,h0 k] w λe D=>e=.returned (h0 (k+n))/\Drawn w D:=by
 obtain⟨ys,rfl|⟨rfl,a0⟩,aY⟩:=a0
 ·exact(yU w a k).mono λe D ⟨z,J⟩=>⟨by rw[z];simp,0,J⟩
 exact Lc w g n k a0 aY aC z V
theorem Lg{w g n a k}(a0:VM w g a n k)(aC:0<=k)(z:k<=1099511627776)(V:n<=1099511627776):
  Calls prog 27 #[.slice a n cap,h0 k] w λe D=>e=.returned (h0 (k+6*n))/\Drawn w D:=by
 obtain⟨ys,rfl|⟨rfl,a0⟩,aY⟩:=a0
 ·exact(yV w a k).mono λe D ⟨z,J⟩=>⟨by rw[z];simp,0,J⟩
 exact Le w g n k a0 aY aC z V
structure OG(w:World)(g1 g2 g3:Nat)(a1:Option Addr)(n1:Nat)(a2:Option Addr)(n2:Nat)(a3:Option Addr)(n3:Nat)(ins:List Int)(vs:List Vl)(outs:List Int):Prop where
 i:IZ w g1 a1 n1 ins
 v:VZ w g2 a2 n2 vs
 o:IZ w g3 a3 n3 outs
 d12:g1≠g2
 d13:g1≠g3
 d23:g2≠g3
theorem OG.keep(f:OG w bz aJ au a1 n1 a2 aI a3 aE ins vs outs)(k:Kept 0 0 w D):OG D bz aJ au a1 n1 a2 aI a3 aE ins vs outs:=
 ⟨f.i.keep k yaa,f.v.keep k yaa,f.o.keep k yaa,f.d12,f.d13,f.d23⟩
theorem Kept.chg1(k:Kept g (g+1) w D)(h:S g):Chg S w D:=
 ⟨k.os,k.tape,k.output,k.size,λi hi V=>k.block i hi λc=>V ((show g=i by omega) ▸ h)⟩
theorem Chg.andThen{a b c}(h:Chg S a b)(k:Chg S b c):Chg S a c:=
 ⟨k.os.trans h.os,k.tape.trans h.tape,k.output.trans h.output,yan h.size k.size,λi hi V=>(k.block i (yaj hi h.size) V).trans (h.block i hi V)⟩
theorem IZ.keepC{G}(f:IZ w g a n G)(k:Chg S w D)(aT:¬S g):IZ D g a n G:=f.imp id λ⟨e,q⟩=>⟨e,q.len,yaj q.lt k.size,λj aK=>by rw[k.cell q.lt aT];exact q.at_ j aK,λo=>by rw[k.frozen q.lt aT];exact q.free o⟩
theorem VZ.keepC(f:VZ w g a n vs)(k:Chg S w D)(aT:¬S g):VZ D g a n vs:=f.imp id λ⟨e,q⟩=>⟨e,q.len,yaj q.lt k.size,λj aK=>by
 have e:∀o,_:=λo=>k.cell (p:=⟨g,o,none⟩) q.lt aT
 obtain⟨c0,c1,c2,c3,c4,c5⟩:=q.at_ j aK
 exact⟨by grind,by grind,by grind,by grind,by grind,by grind⟩,λo=>by rw[k.frozen q.lt aT];exact q.free o⟩
theorem OG.keepC(f:OG w bz aJ au a1 n1 a2 aI a3 aE ins vs outs)(k:Chg S w D)(z:¬S bz)(J:¬S aJ)(al:¬S au):OG D bz aJ au a1 n1 a2 aI a3 aE ins vs outs:=
 ⟨f.i.keepC k z,f.v.keepC k J,f.o.keepC k al,f.d12,f.d13,f.d23⟩
structure OM3(w:World)(g1 g2 g3:Nat)(a1:Option Addr)(n1:Nat)(a2:Option Addr)(n2:Nat)(a3:Option Addr)(n3:Nat)(k:Int):Prop where
 i:IM w g1 a1 n1 k
 v:VM w g2 a2 n2 (k+n1)
 o:IM w g3 a3 n3 (k+n1+6*n2)
theorem Lh{w bz aJ au n1 aI aE}(c1 c2 c3){a1 a2 a3 ins vs outs}(f:OG w bz aJ au a1 n1 a2 aI a3 aE ins vs outs)(bg:bz≠w.heap.size)(a8:aJ≠w.heap.size)(bE:au≠w.heap.size)(k)(aC:0<=k)(z:k<=1000000000)(L:n1<=1048576)(bi:aI<=1048576)(U:aE<=1048576):
  Calls prog 10 #[fj a1 n1 c1 a2 aI c2 a3 aE c3,h0 k] w λe D=>e=.returned (h0 (k+n1+6*aI+aE))/\OM3 D bz aJ au a1 n1 a2 aI a3 aE k/\Chg (λi=>i=bz\/i=aJ\/i=au) w D:=by
 have aL:=dE 0 0 w (eZ a1 n1 c1 a2 aI c2 a3 aE c3);have ax:=gQ w (.slice a1 n1 c1) (.slice a2 aI c2) (.slice a3 aE c3);have s:=f.keep aL;have bl:M (bz≠w.heap.size/\aJ≠w.heap.size/\au≠w.heap.size/\bz≠aJ/\bz≠au/\aJ≠au):=⟨bg,a8,bE,f.d12,f.d13,f.d23⟩
 have c:=Q s.i;have o:=Q s.v;have j:=Q s.o;have aw:=Q ax;have ay:M (Chg (λi=>i=bz\/i=aJ\/i=au) w _):=aL.chg;clear f aL s ax bg a8 bE;go_enter func10,ntmps10;go_wp2_with fail;generalize bN:w.alloc _=aa at c o j aw ay⊢;clear bN;refine yai (Do k c.o aC xaa xaa) ?_;rintro e Z ⟨rfl,(ch:M _),ad⟩;have r:M _:=VZ.keep o.o ad (ih bl.o);have p:M _:=IZ.keep j.o ad (ih bl.o);have aX:M _:=G0.keepT aw.o ad (ih bl.o);have bJ:M _:=Chg.andThen ay.o (ad.chg1 (.inl rfl));clear ad c o j aw ay;obtain⟨_,bT,bg,a8⟩:=aX.o;go_wp2_with fail;clear bT bg a8;refine yai (Lf r.o xaa xaa xaa) ?_;rintro e ao ⟨rfl,(bk:M _),a5⟩;have t:M _:=IM.keep ch.o a5 (ih bl.o);have q:M _:=IZ.keep p.o a5 (ih bl.o);have ce:M _:=G0.keepT aX.o a5 (ih bl.o);have ai:M _:=Chg.andThen bJ.o (a5.chg1 (.inr (.inl rfl)));clear a5 r p aX bJ ch;obtain⟨_,bT,bg,a8⟩:=ce.o;go_wp2_with fail;clear bT bg a8;refine yai (Do _ q.o xaa xaa xaa) ?_;rintro e a7 ⟨rfl,(R3:M _),b0⟩;have bm:M _:=IM.keep t.o b0 (ih bl.o);have bP:M _:=VM.keep bk.o b0 (ih bl.o);have aZ:M _:=Chg.andThen ai.o (b0.chg1 (.inr (.inr rfl)));clear b0 q ce ai t bk;go_wp2;go_ret;exact⟨rfl,⟨bm.o,bP.o,R3.o⟩,aZ.o⟩
theorem Li{w bz aJ au n1 aI aE}(c1 c2 c3){a1 a2 a3}(k)(f:OM3 w bz aJ au a1 n1 a2 aI a3 aE k)(aC:0<=k)(z:k<=1000000000)(L:n1<=1048576)(bi:aI<=1048576)(U:aE<=1048576):
  Calls prog 11 #[fj a1 n1 c1 a2 aI c2 a3 aE c3,h0 k] w λe D=>e=.returned (h0 (k+n1+6*aI+aE))/\Kept 0 0 w D:=by
 have aL:=dE 0 0 w (eZ a1 n1 c1 a2 aI c2 a3 aE c3);have ax:=gQ w (.slice a1 n1 c1) (.slice a2 aI c2) (.slice a3 aE c3);have c:M _:=f.i.keep aL yaa;have o:M _:=f.v.keep aL yaa;have j:M _:=f.o.keep aL yaa;have aw:=Q ax;have ay:=Q aL;clear f aL ax;go_enter func11,ntmps11;go_wp2_with fail;generalize bN:w.alloc _=aa at c o j aw ay⊢;clear bN;refine yai (Dp k c.o aC xaa xaa) ?_;rintro e Z ⟨rfl,bA⟩;have ad:=bA.kept 0 0;have r:M _:=VM.keep o.o ad yaa;have p:M _:=IM.keep j.o ad yaa;have aX:M _:=G0.keep aw.o ad;have bJ:M _:=Kept.trans ay.o ad;have ba:¬(k+n1<0):=xaa;clear ad bA c o j aw ay;obtain⟨_,bT,bg,a8⟩:=aX.o;go_wp2_with fail;clear bT bg a8;refine yai (Lg r.o xaa xaa xaa) ?_;rintro e ao ⟨rfl,bs⟩;have a5:=bs.kept 0 0;have q:M _:=IM.keep p.o a5 yaa;have ce:M _:=G0.keep aX.o a5;have ai:M _:=Kept.trans bJ.o a5;have bu:¬(k+n1+6*aI<0):=xaa;clear a5 bs r p aX bJ;obtain⟨_,bT,bg,a8⟩:=ce.o;go_wp2_with fail;clear bT bg a8;refine yai (Dp _ q.o xaa xaa xaa) ?_;rintro e a7 ⟨rfl,aj⟩;have aZ:M _:=Kept.trans ai.o (aj.kept 0 0);have co:¬(k+n1+6*aI+aE<0):=xaa;clear aj q ce ai;go_wp2;go_ret;exact⟨rfl,aZ.o⟩
