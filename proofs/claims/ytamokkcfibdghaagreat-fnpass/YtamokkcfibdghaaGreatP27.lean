import Derived.Test.YtamokkcfibdghaaGreatP16
import Derived.Test.YtamokkcfibdghaaGreatP23
import Derived.Test.YtamokkcfibdghaaGreatP25
namespace Go.Proofs.Z
variable {Zp:Prop}
open Tryz Go.RowKit Flt
set_option maxRecDepth 1000000
set_option maxHeartbeats 0
section
attribute [local go_sem] eG eE eD
variable {w J:World}{g n k:Nat}{a:Option Addr}{xs:List Nat}{aS ch:Nat->Nat}{xss:List (List Nat)}
structure FO (w:World)(g n:Nat)(xs:List Nat):Prop where
 len:xs.length=n
 bnd:∀x∈xs,x<18446744073709551616
 lt:g<w.heap.size
 at_:∀k,k<n->w.cell? ⟨g,k,none⟩=some (.float .f64 (xs.getD k 0))
 free:∀o,w.frozen? ⟨g,o,none⟩=false
theorem FO.keep{l h}(f:FO w g n xs)(k:Kept l h w J)(aV:g<l\/h<=g\/h<=l):FO J g n xs:=
 ⟨f.len,f.bnd,yaj f.lt k.size,λj hj=>by rw[k.cell (p:=⟨g,j,none⟩) f.lt (by show ¬(l<=g/\g<h);omega)];exact f.at_ j hj,λo=>by rw[k.frozen (p:=⟨g,o,none⟩) f.lt (by show ¬(l<=g/\g<h);omega)];exact f.free o⟩
theorem FO.fs(f:FO w g n xs):FS w 0 w.heap.size (some ⟨g,0,none⟩) n xs:=
 ⟨f.len,f.bnd,.inr ⟨g,0,rfl,Nat.zero_le _,f.lt,f.lt,λk O=>by rw[Nat.zero_add];exact f.at_ k O⟩⟩
structure SS (w:World)(a:Option Addr)(n:Nat)(xss:List (List Nat)):Prop where
 len:xss.length=n
 at_:n=0\/∃g off,a=some ⟨g,off,none⟩/\g<w.heap.size/\∀k,k<n->∃b c,w.cell? ⟨g,off+k,none⟩=some (.slice b (xss.getD k []).length c)/\(xss.getD k []).length<=c/\FS w 0 w.heap.size b (xss.getD k []).length (xss.getD k [])
theorem FS.keep0(f:FS w 0 w.heap.size a n xs)(k:Kept 0 0 w J):FS J 0 J.heap.size a n xs:=
 (f.keep k yaa).mono yad k.size
theorem SS.keep(f:SS w a n xss)(k:Kept 0 0 w J):SS J a n xss:=
 ⟨f.len,by
  rcases f.at_ with aj|⟨g,off,e,B,R⟩
  ·exact .inl aj
  ·refine .inr ⟨g,off,e,yaj B k.size,λj hj=>?_⟩
   obtain⟨b,c,br,ag,aD⟩:=R j hj
   exact⟨b,c,jh k B br,ag,aD.keep0 k⟩⟩
structure SP (w:World)(g n k:Nat)(gf cf:Nat->Nat)(xss:List (List Nat)):Prop where
 lt:g<w.heap.size
 free:∀o,w.frozen? ⟨g,o,none⟩=false
 cell:∀j,j<k->w.cell? ⟨g,j,none⟩=some (.slice (some ⟨gf j,0,none⟩) (xss.getD j []).length (cf j))
 rest:∀j,j<n->∃u,w.cell? ⟨g,j,none⟩=some u
 cap:∀j,j<k->(xss.getD j []).length<=cf j
 own:∀j,j<k->FO w (gf j) (xss.getD j []).length (xss.getD j [])
 up:∀j,j<k->g<gf j
 inc:∀i j,i<j->j<k->gf i<gf j
theorem SP.keep(f:SP w g n k aS ch xss)(q:Kept 0 0 w J):SP J g n k aS ch xss:=
 ⟨yaj f.lt q.size,λo=>by rw[q.frozen (p:=⟨g,o,none⟩) f.lt xaa];exact f.free o,λj hj=>jh q f.lt (f.cell j hj),λj hj=>(f.rest j hj).imp λ_ h=>jh q f.lt h,f.cap,λj hj=>(f.own j hj).keep q yaa,f.up,f.inc⟩
def upd (f:Nat->Nat)(k x:Nat):Nat->Nat:=λj=>if j=k then x else f j
theorem mU(f k x):upd f k x k=x:=hK rfl
theorem kI{f x j}(h:j≠k):upd f k x j=f j:=hJ h
theorem SP.step(f:SP w g n k aS ch xss)(O:k<n)(q:Kept 0 0 w J){G c}
  (av:FO J G (xss.getD k []).length (xss.getD k [])) (bq:w.heap.size<=G) (ai:(xss.getD k []).length<=c):
  SP (J.setCell ⟨g,k,none⟩ (hH G (xss.getD k []).length c)) g n (k+1) (upd aS k G) (upd ch k c) xss:=by
 have p:=f.keep q;have ao:=f.lt;have U:∀v,Kept g (g+1) J (J.setCell ⟨g,k,none⟩ v):=λv=>eX J ⟨g,k,none⟩ v yac;obtain⟨u,aJ⟩:=p.rest k O;refine⟨by simpa using p.lt,λo=>by simp[p.free o],λj hj=>?_,λj hj=>?_,λj hj=>?_,λj hj=>?_,λj hj=>?_,λi j f7 hj=>?_⟩
 ·by_cases e:j=k
  ·subst e;rw[mU,mU];exact fJ _ _ _ _ _ aJ
  rw[kI e,kI e,eO _ _ _ _ _ _ (.inr (Ne.symm e))];exact p.cell j xaa
 ·by_cases e:j=k
  ·subst e;exact⟨_,fJ _ _ _ _ _ aJ⟩
  rw[eO _ _ _ _ _ _ (.inr (Ne.symm e))];exact p.rest j hj
 ·by_cases e:j=k
  ·subst e;rw[mU];exact ai
  rw[kI e];exact f.cap j xaa
 ·by_cases e:j=k
  ·subst e;rw[mU];exact av.keep (U _) xaa
  rw[kI e];exact(p.own j xaa).keep (U _) (hR (f.up j xaa))
 ·by_cases e:j=k
  ·subst e;rw[mU];omega
  rw[kI e];exact f.up j xaa
 by_cases e:j=k
 ·subst e;rw[mU,kI xaa];have:=(f.own i xaa).lt;omega
 rw[kI e,kI xaa];exact f.inc i j f7 xaa
theorem SP.ss(f:SP w g n n aS ch xss)(ah:xss.length=n):SS w (some ⟨g,0,none⟩) n xss:=
 ⟨ah,.inr ⟨g,0,rfl,f.lt,λk O=>⟨_,_,by rw[Nat.zero_add];exact f.cell k O,f.cap k O,(f.own k O).fs⟩⟩⟩
theorem BY:(prog.info? 47).map (λi=>(i.zero,i.size,i.bytes))=some (some (.slice none 0 0),1,24):=by kernel_rfl
theorem A7(n:Nat)(w)(hn:n<=1099511627776):
  (Instr.makeSlice 30 (hI n) (hI n)).run prog w=.ok (hH w.heap.size n n) (w.alloc (.cells (madeCells #[.slice none 0 0] n) 47)):=by
 obtain⟨i,hi,bU,bO,bR⟩:=info_parts BY;have:=run_make (P:=prog) w 30 47 i (.slice none 0 0) underlying30 hi bU .i64 .i64 n n xaa xaa (hW bR) xaa;exact qcn
theorem SP.made(w:World)(n aS ch xss):SP (w.alloc (.cells (madeCells #[.slice none 0 0] n) 47)) w.heap.size n 0 aS ch xss where
 lt:=by simp
 free:=λo=>by simp
 cell:=λj hj=>absurd hj (Nat.not_lt_zero _)
 rest:=λj hj=>by
  rw[yau]
  refine⟨.slice none 0 0,?_⟩
  simp only[madeCells]
  rw[Array.getElem?_map,Array.getElem?_range,hK hj]
  have az:j%1=0:=Nat.mod_one j
  simp[az]
 cap:=λj hj=>absurd hj (Nat.not_lt_zero _)
 own:=λj hj=>absurd hj (Nat.not_lt_zero _)
 up:=λj hj=>absurd hj (Nat.not_lt_zero _)
 inc:=λi j _ hj=>absurd hj (Nat.not_lt_zero _)
end
section
variable {x y u K N:Nat}{xs bd Q X al H Y ar:List Nat}{op len C:Int}
theorem Dq(au:x<18446744073709551616)(bV:y<18446744073709551616)(h:fb x=fb y):fb (Op.negFloat .f64 x)=fb (Op.negFloat .f64 y):=by
 rcases mK h with rfl|⟨a,b⟩
 ·rfl
 have aw:∀z,z<18446744073709551616->(f64.read z).isNaN=true->(f64.read (Op.negFloat _ z)).isNaN=true:=λz bp hn=>by
  obtain⟨s,r,ay,rfl⟩:=jD z bp
  rw[uL s ay]
  rcases Nat.lt_or_ge 9218868437227405312 r with c|c
  ·rw[show f64.read _=_ from nU c ay];rfl
  ·have:=qe (s:=s) c
   rw[wj,hn]at this
   cases this
 exact uP (aw x au a) (aw y bV b)
theorem uF(h:fb x=fb u)(h':fb y=fb N):fb (jr x y)=fb (jr u N):=by
 have e:FloatKind.f64.format.order x y=FloatKind.f64.format.order _ _:=lF h h';unfold jr;rw[e];split
 ·exact h
 exact h'
theorem xI{z j}(h:fb x=fb u)(h':fb y=fb N)(f:fb z=fb j):fb (iC x y z)=fb (iC u N j):=by
 have e:FloatKind.f64.format.order x 0=FloatKind.f64.format.order _ 0:=lF h rfl;unfold iC;rw[e];split
 ·exact h'
 exact f
theorem Ds(h:fb x=fb y):fb (qk x)=fb (qk y):=by
 have ae:FloatKind.f64.format.order x x=FloatKind.f64.format.order y y:=lF h h;have a9:FloatKind.f64.format.order x 4652007308841189376=FloatKind.f64.format.order y _:=lF h rfl;have ak:FloatKind.f64.format.order x 13875379345695965184=FloatKind.f64.format.order y _:=lF h rfl;unfold qk;rw[ae,a9,ak,gL _ h rfl];split
 ·exact h
 rfl
theorem A8(h:fU xs bd)(aj:0<xs.length):fb (kR xs)=fb (kR bd):=by
 have ah:=jc h
 have aw:∀k,0<k->k<=xs.length->fb (kR (xs.take k))=fb (kR (bd.take k)):=λk=>by
  induction k with
  |zero=>intro c;omega
  |succ k ag=>
   intro _ O
   rcases Nat.eq_zero_or_pos k with c|c
   ·subst c
    rw[ql _ aj,ql _ xaa]
    exact gO h 0
   ·rw[oS _ k c xaa,oS _ k c xaa,gL _ (ag c xaa) (gO h k)]
 have:=aw _ aj yad;rw[yao yad,yao xaa]at this;exact this
theorem J0{l F s}(h:fk op len C l F s=true)(bm:op=9):0<l:=by
 subst bm;simp[fk,eR,cnt,lenB]at h;omega
theorem A9{k}(G:fU Q H)(hb:fU X Y)(ai:fU al ar)(l:∀x∈Q,x<18446744073709551616)(f:∀x∈H,x<18446744073709551616)(bm:op=9->0<Q.length):
  fb (fA op C K Q X al k)=fb (fA op C K H Y ar k):=by
 unfold fA;by_cases c:op=1
 ·rw[hK c,hK c]
 rw[hJ c,hJ c];clear c;by_cases c:op=2
 ·exact xgh
 rw[hJ c,hJ c];clear c;by_cases c:op=3
 ·exact xgh
 rw[hJ c,hJ c];clear c;by_cases c:op=4
 ·exact xgh
 rw[hJ c,hJ c];clear c;by_cases c:op=5
 ·exact xgh
 rw[hJ c,hJ c];clear c;by_cases c:op=6
 ·rw[hK c,hK c];exact Dq (fx l k) (fx f k) (gO G k)
 rw[hJ c,hJ c];clear c;by_cases c:op=7
 ·rw[hK c,hK c];exact uF (gO G k) (gO hb k)
 rw[hJ c,hJ c];clear c;by_cases c:op=8
 ·rw[hK c,hK c];exact xI (gO G k) (gO hb k) (gO ai k)
 rw[hJ c,hJ c];clear c;by_cases c:op=9
 ·rw[hK c,hK c];exact A8 G (bm c)
 rw[hJ c,hJ c];clear c;by_cases c:op=10
 ·rw[hK c,hK c];exact gO G 0
 rw[hJ c,hJ c];clear c;by_cases c:op=11
 ·rw[hK c,hK c];exact gO G _
 rw[hJ c,hJ c];clear c;by_cases c:op=12
 ·rw[hK c,hK c];by_cases d:k=C.toNat
  ·rw[hK d,hK d];exact gO G 0
  rw[hJ d,hJ d]
 rw[hJ c,hJ c];exact Ds (gO G k)
theorem nD(G:fU Q H)(hb:fU X Y)(ai:fU al ar)(l:∀x∈Q,x<18446744073709551616)(f:∀x∈H,x<18446744073709551616):
  fU (iW op len C K Q X al) (iW op len C K H Y ar):=by
 unfold iW;rw[<-jc G,<-jc hb,<-jc ai];cases bb:fk op len C Q.length X.length al.length
 ·rfl
 rw[hK rfl,hK rfl];refine oQ xac λk O=>?_;have ae:k<len.toNat:=by simpa using O
 have e:=A9 (C:=C) (K:=K) (k:=k) G hb ai l f (λbm=>J0 bb bm);simpa[List.getD_eq_getElem?_getD,ae] using e
theorem gY{zs}(h:fU xs bd)(h':fU bd zs):fU xs zs:=Eq.trans h h'
theorem ro(h:fU xs bd):fU bd xs:=Eq.symm h
def one (xss:List (List Nat))(v:Vl)(Vs:List (List Nat)):List Nat:=
 if v.op=0 then xss.getD v.a.toNat [] else
  iW v.op v.len v.c v.k (if 0<cnt v.op then Vs.getD v.a.toNat [] else[]) (if 1<cnt v.op then Vs.getD v.b.toNat [] else[]) (if 2<cnt v.op then Vs.getD v.c.toNat [] else[])
def eU (xss:List (List Nat))(vs:List Vl):Nat->List (List Nat)
 |0=>[]
 |i+1=>eU xss vs i++[one xss (vs.getD i hM) (eU xss vs i)]
theorem iF(xss vs):∀i,(eU xss vs i).length=i
 |0=>rfl
 |i+1=>by rw[eU,yak,iF _ _ i];rfl
theorem i5(xss vs){i j}(h:j<i):(eU xss vs (i+1)).getD j []=(eU xss vs i).getD j []:=by
 rw[eU,yah,yas (by rw[iF];exact h),<-yah]
theorem jy(xss vs i):(eU xss vs (i+1)).getD i []=one xss (vs.getD i hM) (eU xss vs i):=by
 rw[eU,yah,yar (by rw[iF];exact yad),iF,Nat.sub_self];rfl
theorem vx(xss vs){i j}:∀n,j<i->(eU xss vs (i+n)).getD j []=(eU xss vs i).getD j []
 |0,_=>rfl
 |n+1,h=>by rw[<-Nat.add_assoc,i5 _ _ xaa];exact vx _ _ n h
def inB (ins:List Int)(xss:List (List Nat)):Bool:=decide (xss.length=ins.length)&&(List.range ins.length).all λi=>((xss.getD i []).length:Int)==ins.getD i 0
theorem zu(h:fk op len C Q.length X.length al.length=true):(iW op len C K Q X al).length=len.toNat:=by
 unfold iW;rw[hK h];simp
theorem mV{ins vs xss}(hi:inB ins xss=true):∀i,(List.range i).all (okV ins vs)=true->∀j,j<i->(((eU xss vs i).getD j []).length:Int)=(vs.getD j hM).len
 |0,_,j,hj=>by omega
 |i+1,h,j,hj=>by
  have ay:(List.range i).all (okV ins vs)=true:=by rw[List.range_succ,List.all_append]at h;rw[Bool.and_eq_true]at h;exact h.1
  have ag:=mV hi i ay
  by_cases e:j<i
  ·rw[i5 _ _ e];exact ag j e
  ·have:j=i:=xaa
   subst this
   rw[jy]
   have av:=List.all_eq_true.1 h j (List.mem_range.2 yae)
   have b4:=iu av
   unfold okV at av
   generalize vs.getD j _=v at av b4⊢
   rw[Bool.and_eq_true,Bool.and_eq_true]at av
   obtain⟨⟨B,R⟩,h3⟩:=av
   unfold one
   by_cases aj:v.op=0
   ·rw[hK aj]at h3⊢
    rw[Bool.and_eq_true]at h3
    have G:=of_decide_eq_true h3.1
    unfold inB at hi
    rw[Bool.and_eq_true]at hi
    have au:=List.all_eq_true.1 hi.2 v.a.toNat (List.mem_range.2 xaa)
    rw[beq_iff_eq.1 au]
    exact(beq_iff_eq.1 h3.2).symm
   ·rw[hJ aj]at h3⊢
    rw[Bool.and_eq_true]at h3
    have aq:=h3.1
    have ad:=h3.2
    have ai:=gK v.op
    have aw:∀o,fI o j=true->(((eU _ _ j).getD _ _).length:Int)=(vs.getD o.toNat _).len:=λo av=>by
     have:=of_decide_eq_true av
     exact ag _ xaa
    rw[zu]
    ·omega
    ·unfold fk
     rw[B,Bool.true_and]
     unfold eW at aq ad
     rcases (by omega:cnt v.op=0\/cnt v.op=1\/cnt v.op=2\/cnt v.op=3) with e|e|e|e
     ·rw[e]at ad⊢;exact ad
     ·rw[e]at aq ad⊢
      simp only[List.take_succ_cons,List.take_zero,List.all_cons,List.all_nil,Bool.and_true,List.map_cons,List.map_nil]at aq ad⊢
      rw[hK xaa,aw _ aq]
      exact ad
     ·rw[e]at aq ad⊢
      simp only[List.take_succ_cons,List.take_zero,List.all_cons,List.all_nil,Bool.and_true,Bool.and_eq_true,List.map_cons,List.map_nil]at aq ad⊢
      rw[hK xaa,hK xaa,aw _ aq.1,aw _ aq.2]
      exact ad
     ·rw[e]at aq ad⊢
      simp only[List.take_succ_cons,List.take_zero,List.all_cons,List.all_nil,Bool.and_true,Bool.and_eq_true,List.map_cons,List.map_nil]at aq ad⊢
      rw[hK xaa,hK xaa,hK xaa,aw _ aq.1,aw _ aq.2.1,aw _ aq.2.2]
      exact ad
end
section
attribute [local go_sem] eG eE eD
variable {w J:World}{x base n K:Nat}{v:Value}{xs Q X al:List Nat}
theorem bX.qcg(h:Zp:=by
 exact xip):Zp:=h
open bX in
theorem Dt(w lo hi a b n m ca b5 ins xss)(f:IS w lo hi a n ins)(g:SS w b m xss)(hn:n<=1099511627776):
  Calls prog 24 #[.slice a n ca,.slice b m b5] w λe J=>e=.returned (.bool (inB ins xss))/\Drawn w J:=by
 have aP:V _:=f;have a5:V _:=g;have HL:V (ins.length=n/\xss.length=m):=⟨f.len,g.len⟩
 clear f g;by_cases ag:m=n
 ·subst ag;go_enter func24,ntmps24;go_wp2_with fail;go_loop [14] (λi=>∃k:Nat,k<=m/\i=hI k/\V ((List.range k).all (λi=>((xss.getD i []).length:Int)==ins.getD i 0)=true)) (λi=>m-(intOf i).toNat)
  case atStart=>exact⟨0,Nat.zero_le _,rfl,rfl⟩
  case round=>
   obtain⟨k,O,rfl,a7⟩:=hrel;by_cases aF:k<m
   ·rcases aP.o.at_ with bM|⟨aG,bF,b1,aZ,be,bz,bE⟩
    ·omega
    rcases a5.o.at_ with bM|⟨bH,ab,cf,aU,aY⟩
    ·omega
    have c1:=bE k aF;obtain⟨aA,F,c2,_,_⟩:=aY k aF;subst b1 cf;clear aZ be bz bE aU aY;cases au:(((xss.getD k []).length:Int)==ins.getD k 0)
    ·have aa:V (inB ins xss=false):=by
      exact xhx
     have am:(((xss.getD k []).length:Int) !=ins.getD k 0)=true:=by rw[bne,au];rfl
     generalize (xss.getD k []).length=y at c2 am;generalize ins.getD k 0=x at c1 am;clear au a7;go_wp2;go_ret;exact⟨hX aa.o,Drawn.refl _⟩
    exact qcf
   have aa:V (inB ins xss=true):=by
    exact xib
   clear a7;go_wp2;go_ret;exact⟨hX aa.o,Drawn.refl _⟩
 have e:inB ins xss=false:=by
  exact xkv
 rw[e];have t:((m:Int) !=(n:Int))=true:=by simp;omega
 go_enter func24,ntmps24;go_wp2;go_ret;exact⟨rfl,Drawn.refl _⟩
theorem FO.of_own{W}(h:W.ownsRow base 49 1 v n (xs.map (Value.float .f64)))(hn:0<n)(ah:xs.length=n)(hb:∀x∈xs,x<18446744073709551616):
  ∃g cap,v=hH g n cap/\base<=g/\n<=cap/\FO W g n xs:=by
 rcases h.2 with⟨_,c⟩|⟨g,cap,H,rfl,N,aA,ab,_,b9,cn⟩
 ·omega
 have aW:g<W.heap.size:=by
  exact xdo
 refine⟨g,_,rfl,N,ab,ah,hb,aW,λj hj=>?_,λo=>frozen_of_row W g o _ _ aA⟩;rw[cell_of_row W g _ _ _ _ aA,<-Array.getElem?_toList];have:(H.toList.take (n*1))[j]? =(xs.map (Value.float .f64))[j]?:=by rw[cn]
 exact xga
theorem BZ{g off}(au:xs.length=n)(ai:∀k,k<n->w.cell? ⟨g,off+k,none⟩=some (.float .f64 (xs.getD k 0))):
  ∀j u,(xs.map (Value.float .f64))[j]? =some u->w.cell? ((⟨g,off,none⟩:Addr).add j)=some u:=λj u aJ=>by
 have hj:j<n:=by
  rcases Nat.lt_or_ge j n with c|c
  ·exact c
  ·rw[List.getElem?_eq_none yaf]at aJ;cases aJ
 have B:=ai j hj
 have e:(⟨g,off,none⟩:Addr).add j=⟨g,off+j,none⟩:=by
  unfold Addr.add;split
  ·rename_i aj;rw[aj];rfl
  ·rfl
 rw[e,B]
 rw[List.getElem?_map,yal (by omega:j<xs.length)]at aJ
 simp only[Option.map_some]at aJ
 rw[<-aJ,yah,yal (by omega:j<xs.length)];rfl
theorem jq{aC}(h:w.grownBy J aC)(ay:∀k,aC=some k->base<=k){w0}(k:Kept 0 0 w0 w)(hb:w0.heap.size<=base):Kept 0 0 w0 J:=
 ⟨h.os.trans k.os,h.tape.trans k.tape,h.output.trans k.output,yan k.size h.size,λi hi _=>by
  rw[h.block i (yaj hi k.size) (λc=>hR (ay i c.symm))]
  exact k.block i hi xaa⟩
theorem Pe(w g off n c xs)(hn:1<=n)(b8:n<=1000000)(aW:g<w.heap.size)(au:xs.length=n)(aF:∀x∈xs,x<18446744073709551616)(ai:∀k,k<n->w.cell? ⟨g,off+k,none⟩=some (.float .f64 (xs.getD k 0))):
  Calls prog 26 #[.slice (some ⟨g,off,none⟩) n c] w λe J=>∃G cap,e=.returned (hH G n cap)/\n<=cap/\FO J G n xs/\w.heap.size<=G/\Kept 0 0 w J:=by
 obtain⟨bK,hi,bU,bO,bR⟩:=info_parts lG
 have i:(binOp .eql 47 (.slice (some ⟨g,off,none⟩) n c) (.slice none 0 0)).run prog w=.ok (.bool false) w:=by
  simp only[binOp];simp[run_equal_slice_nil w 47 49 (some ⟨g,off,none⟩) n c underlying47]
 have bH:=ez 0 0 w (.cells #[] 49);have bD:V _:=BZ (w:=w.alloc (.cells #[] 49)) (g:=g) (off:=off) au (λk O=>jh bH aW (ai k O));have HO:V _:=World.ownsRow_made (base:=w.heap.size) (e:=49) (size:=1) w #[] 0 yad (by unfold maxLen;omega) rfl;have q:V _:=bH;have bv:V (xs.length=n):=au;have f:V _:=aF;clear ai au aF bH;go_enter func26,ntmps26;go_wp2_with (first|(at_builtin;refine wpList_append_own _ rfl _ _ 47 rfl w.heap.size 49 bK (.float .f64 0) 1 8 underlying47 hi bU bO bR rfl xab _ _ _ rfl HO.o ⟨g,off,none⟩ n c (xs.map (Value.float .f64)) rfl ?c0 bD.o ?c2 ?c3 ?c4 ?c5 ?_))
 case c0=>exact bv.o
 case c2=>intro u aJ;rfl
 case c3=>unfold maxLen;omega
 case c4=>omega
 intro v' bo bB bw _;obtain⟨G,cap,rfl,N,aA,ab⟩:=FO.of_own bB xaa bv.o f.o;have aa:V _:=jq (base:=w.heap.size) bw (λk O=>by have:w.heap.size=k:=(by simpa[Value.ownBlock] using O);omega) q.o yad;clear bB bw;go_wp2;go_ret;exact⟨G,cap,rfl,aA,ab,N,aa.o⟩
def Cl (w:World)(v:Value)(xs:List Nat):Prop:=∃b n c zs,v=.slice b n c/\n<=c/\FS w 0 w.heap.size b n zs/\fU zs xs
theorem Cl.keep(h:Cl w v xs)(k:Kept 0 0 w J):Cl J v xs:=by
 obtain⟨b,n,c,zs,B,R,h3,a8⟩:=h;exact⟨b,n,c,_,B,R,h3.keep0 k,a8⟩
theorem Cl.nil(w):Cl w (.slice none 0 0) []:=⟨none,0,0,[],rfl,yad,⟨rfl,by simp,.inl rfl⟩,rfl⟩
def Cn (w:World)(lo:Nat)(v:Value)(xs:List Nat):Prop:=∃b n c zs,v=.slice b n c/\n<=c/\FS w lo w.heap.size b n zs/\fU zs xs
theorem Cn.cl{lo}(h:Cn w lo v xs):Cl w v xs:=by
 obtain⟨b,n,c,zs,B,R,h3,a8⟩:=h;exact⟨b,n,c,_,B,R,h3.mono (Nat.zero_le _) yad,a8⟩
theorem zv(w)(v:Vl)(aH:v.k<18446744073709551616)(x y z Q X al)(G:Cl w x Q)(hb:Cl w y X)(ai:Cl w z al)(l:∀q∈Q,q<18446744073709551616):
  Calls prog 48 #[v.agg,x,y,z] w λe J=>∃u,e=.returned u/\Cn J w.heap.size u (iW v.op v.len v.c v.k Q X al)/\Kept 0 0 w J:=by
 obtain⟨a,f,ca,g,rfl,a1,a2,a3⟩:=G;obtain⟨b,an,b5,B,rfl,N,aA,ab⟩:=hb;obtain⟨c,aX,b3,h,rfl,c1,c2,c3⟩:=ai;refine(yW w v.op v.len v.a v.b v.c v.k aH a2 aA c2 a1).mono ?_;rintro e J ⟨af,n,cap,zs,rfl,av,ad,O,hn⟩;exact⟨_,rfl,⟨af,n,cap,zs,rfl,hn,av.fs,gY ad (nD a3 ab c3 a2.lt l)⟩,O⟩
theorem zw(w)(v:Vl)(aH:v.k<18446744073709551616)(x y z Q X al)(G:Cl w x Q)(hb:Cl w y X)(ai:Cl w z al)(l:∀q∈Q,q<18446744073709551616):
  Calls prog 40 #[v.agg,x,y,z] w λe J=>∃u,e=.returned u/\Cn J w.heap.size u (iW v.op v.len v.c v.k Q X al)/\Kept 0 0 w J:=by
 obtain⟨a,f,ca,g,rfl,a1,a2,a3⟩:=G;obtain⟨b,an,b5,B,rfl,N,aA,ab⟩:=hb;obtain⟨c,aX,b3,h,rfl,c1,c2,c3⟩:=ai;refine(yX w v.op v.len v.a v.b v.c v.k aH a2 aA c2 a1).mono ?_;rintro e J ⟨af,n,cap,zs,rfl,av,ad,O,hn⟩;exact⟨_,rfl,⟨af,n,cap,zs,rfl,hn,av,gY ad (nD a3 ab c3 a2.lt l)⟩,O⟩
theorem ow(op x y):cop op x y<18446744073709551616:=by
 unfold cop;cases h:floatBits op .f64 x y with
 |none=>decide
 |some r=>
  have:=floatBits_wf h;simpa[Lit.wf] using this
theorem J1(au:x<18446744073709551616):qk x<18446744073709551616:=by
 unfold qk;split
 ·exact au
 split
 ·decide
 split
 ·decide
 exact ow _ _ _
theorem B0:∀(xs:List Nat) (x:Nat),x<18446744073709551616->xs.foldl (cop .add) x<18446744073709551616
 |[],_,h=>h
 |y::bd,x,_=>B0 bd (cop .add x y) (ow _ _ _)
theorem J2(h:∀x∈xs,x<18446744073709551616):kR xs<18446744073709551616:=by
 cases xs with
 |nil=>decide
 |cons x r=>exact B0 r x (h x xac)
theorem mh{p}[Decidable p]{y}(au:x<18446744073709551616)(bV:y<18446744073709551616):(if p then x else y)<18446744073709551616:=by
 split
 ·exact au
 exact bV
theorem J3{op C}(aH:K<18446744073709551616)(G:∀x∈Q,x<18446744073709551616)(hb:∀x∈X,x<18446744073709551616)(ai:∀x∈al,x<18446744073709551616)(k):fA op C K Q X al k<18446744073709551616:=by
 have bw:=fx G;have bb:=fx hb;have c0:=fx ai;unfold fA jr iC;exact mh aH (mh (ow _ _ _) (mh (ow _ _ _) (mh (ow _ _ _) (mh (ow _ _ _) (mh (wu (bw _)) (mh (mh (bw _) (bb _)) (mh (mh (bb _) (c0 _)) (mh (J2 G) (mh (bw _) (mh (bw _) (mh (mh (bw _) xab) (J1 (bw _)))))))))))))
theorem xJ{op len C}(aH:K<18446744073709551616)(G:∀x∈Q,x<18446744073709551616)(hb:∀x∈X,x<18446744073709551616)(ai:∀x∈al,x<18446744073709551616):∀x∈iW op len C K Q X al,x<18446744073709551616:=by
 unfold iW;split
 ·intro x au;obtain⟨k,_,rfl⟩:=List.mem_map.1 au;exact J3 aH G hb ai k
 intro x au;cases au
def gZ (xss:List (List Nat)):Prop:=∀k,∀x∈xss.getD k [],x<18446744073709551616
theorem kD{p}[Decidable p](h:∀x∈xs,x<18446744073709551616):∀x∈(if p then xs else[]),x<18446744073709551616:=by
 split
 ·exact h
 intro x au;cases au
theorem Nv{xss v Vs}(au:gZ xss)(aL:v.k<18446744073709551616)(z:gZ Vs):∀x∈one xss v Vs,x<18446744073709551616:=by
 unfold one;split
 ·exact au _
 exact xJ aL (kD (z _)) (kD (z _)) (kD (z _))
theorem kr{xss vs}(au:gZ xss)(aL:∀k,(vs.getD k hM).k<18446744073709551616):∀i,gZ (eU xss vs i)
 |0=>λk x h=>by simp[eU]at h
 |i+1=>λk x h=>by
  have ag:=kr au aL i
  rcases Nat.lt_trichotomy k i with c|c|c
  ·rw[i5 _ _ c]at h;exact ag k x h
  ·subst c;rw[jy]at h;exact Nv au (aL _) ag x h
  ·rw[yah,List.getElem?_eq_none (by rw[iF];omega)]at h;cases h
end
section
attribute [local go_sem] eG eE
def niN (bs:List Int)(i:Nat):Nat->Nat
 |0=>i
 |k+1=>ni bs (niN bs i k)
def dfI (bs:List Int)(i:Nat):Nat:=if nv bs i%16=10 then ni bs (ni bs i)else if 14<=nv bs i%16 then niN bs (ni bs i) 8 else ni bs i
def dfB (bs:List Int)(i:Nat):Nat->Int
 |0=>0
 |k+1=>IntKind.u64.wrap (IntKind.u64.wrap (dfB bs i k*256)+IntKind.u64.wrap (nv bs (niN bs i k):Int))
def dfV (bs:List Int)(i:Nat):Nat:=
 if nv bs i%16<6 then floatOfInt .f64 ((nv bs i:Int)/16)
 else if nv bs i%16<9 then Op.negFloat .f64 (floatOfInt .f64 ((nv bs i:Int)/16))
 else if nv bs i%16=9 then cop .quo (floatOfInt .f64 ((nv bs i:Int)/16)) 4620693217682128896
 else if nv bs i%16=10 then cop .quo (floatOfInt .f64 ((nv bs i:Int)/16)) (floatOfInt .f64 (wrap64 ((nv bs (ni bs i):Int)+1)))
 else if nv bs i%16=11 then[0,9223372036854775808,9218868437227405312,18442240474082181120,9221120237041090560,1,9223372036854775809,4503599627370496,9218868437227405311,18442240474082181119,4607182418800017408,13830554455654793216,4591870180066957722,4846369599423283200,4841369599423283202,20240225330731].getD (nv bs i/16) 0
 else if nv bs i%16=12 then cop .mul (floatOfInt .f64 ((nv bs i:Int)/16)) 9094988921128908188
 else if nv bs i%16=13 then cop .mul (Op.negFloat .f64 (floatOfInt .f64 ((nv bs i:Int)/16))) 2024
 else if nv bs i%16=14 then (bits .or .u64 (dfB bs (ni bs i) 8) (IntKind.u64.wrap (IntKind.u64.wrap (wrap64 ((nv bs i:Int)/16))*576460752303423488))).toNat
 else (dfB bs (ni bs i) 8).toNat
theorem Ga(bs i):∀k,0<=dfB bs i k/\dfB bs i k<18446744073709551616
 |0=>⟨Int.le_refl _,by show(0:Int)<_;decide⟩
 |k+1=>⟨wrap_u64_nonneg _,rV _⟩
def DfO (P:Nat)(a:Option Addr)(n cap i:Nat)(bs:List Int)(w:World)(x:Nat)(e:Ending)(w':World):Prop:=∃z,e=.returned (.float .f64 z)/\fb z=fb x/\z<18446744073709551616/\RdF w' P a n cap i bs/\Kept P (P+1) w w'
theorem RdF.drw{w P a n cap i bs}(f:RdF w P a n cap i bs)(m):RdF (w.drewN m) P a n cap i bs:=f.keep (eM 0 0 w m) yab
theorem Nw(w P a n cap i bs)(h:RdF w P a n cap i bs):
  Calls prog 59 #[hG P] w (DfO P a n cap (dfI bs i) bs w (dfV bs i)):=by
 have au:=fK h.ys i;have bD:V _:=jp w P a n cap i bs h;have HD:V (dfI bs i=if nv bs i%16=10 then ni bs (ni bs i)else if 14<=nv bs i%16 then niN bs (ni bs i) 8 else ni bs i):=rfl;unfold DfO;have q:∃S,fb (dfV bs i)=S:=⟨_,rfl⟩
 obtain⟨S,aL⟩:=q;rw[aL];unfold dfV at aL;have bT:V _:=aL.symm;clear aL;generalize dfI bs i=p at HD⊢;generalize nv bs i=x at bD HD bT au;have f1:=@kK prog;have f2:=@mL prog;have f3:=tP;clear h;go_enter func59,ntmps59;go_wp2_with fail;refine yai bD.o ?_;rintro e aB ⟨rfl,B,U,bO⟩;clear bO bD;have aW:V (x%16≠10->x%16<14->p=ni bs i):=λc d=>by rw[HD.o,hJ c,hJ xaa]
 have g:V (x%16=10->p=ni bs (ni bs i)):=λc=>by rw[HD.o,hK c]
 have f:V (14<=x%16->p=niN bs (ni bs i) 8):=λc=>by rw[HD.o,hJ xaa,hK c]
 clear HD;rcases JU x with O|O|O|O|O|O|O|O|O
 ·have bm:=bT.o;rw[hK xaa]at bm;have bx:V _:=bm;clear bT bm;have aV:=aW.o xaa xaa;clear aW g f;subst aV;have ae:(x:Int)%16<6:=xaa;clear O;go_wp2;go_ret;exact⟨_,rfl,bx.o.symm,qE _,B,U⟩
 ·have bm:=bT.o;rw[hJ xaa,hK xaa]at bm;have bx:V _:=bm;clear bT bm;have aV:=aW.o xaa xaa;clear aW g f;subst aV;have ae:6<=(x:Int)%16:=xaa;have r:(x:Int)%16<9:=xaa;clear O;go_wp2;go_ret;exact⟨_,rfl,bx.o.symm,A2 (qE _),B,U⟩
 ·have bm:=bT.o;rw[hJ xaa,hJ xaa,hK xaa]at bm;have bx:V _:=bm;clear bT bm;have aV:=aW.o xaa xaa;clear aW g f;subst aV;have ae:(x:Int)%16=9:=xaa;exact xfr
 ·have bm:=bT.o;rw[hJ xaa,hJ xaa,hJ xaa,hK xaa]at bm;have bx:V _:=bm;clear bT bm;have aV:=g.o O;clear aW g f;subst aV;have ae:(x:Int)%16=10:=xaa;clear O;go_wp2_with fail;refine(jp _ _ _ _ _ _ _ B).mono ?_;rintro e af ⟨rfl,R,av,bR⟩;clear bR;go_wp2;go_ret;exact⟨_,rfl,(ik _ _ _ _).trans bx.o.symm,iE _ _ _ _,R.drw _,U.trans (av.trans (eM _ _ _ _))⟩
 ·have bm:=bT.o;rw[hJ xaa,hJ xaa,hJ xaa,hJ xaa,hK xaa]at bm;have bx:V _:=bm;clear bT bm;have aV:=aW.o xaa xaa;clear aW g f;subst aV;have am:x=11\/x=27\/x=43\/x=59\/x=75\/x=91\/x=107\/x=123\/x=139\/x=155\/x=171\/x=187\/x=203\/x=219\/x=235\/x=251:=xaa;clear O au;rcases am with rfl|rfl|rfl|rfl|rfl|rfl|rfl|rfl|rfl|rfl|rfl|rfl|rfl|rfl|rfl|rfl
  all_goals
   go_wp2
   go_ret
   refine⟨_,rfl,?_,?_,(B.keep (ez 0 0 _ _) yab).drw _,(U.trans (ez _ _ _ _)).trans (eM _ _ _ _)⟩
   ·rw[bx.o];first|rfl|(rw[ik];rfl)|(rw[ik];decide)
   ·first|exact iE _ _ _ _|exact A2 xaa|omega
 ·have bm:=bT.o;rw[hJ xaa,hJ xaa,hJ xaa,hJ xaa,hJ xaa,hK xaa]at bm;have bx:V _:=bm;clear bT bm;have aV:=aW.o xaa xaa;clear aW g f;subst aV;have ae:(x:Int)%16=12:=xaa;exact xfr
 ·have bm:=bT.o;rw[hJ xaa,hJ xaa,hJ xaa,hJ xaa,hJ xaa,hJ xaa,hK xaa]at bm;have bx:V _:=bm;clear bT bm;have aV:=aW.o xaa xaa;clear aW g f;subst aV;have ae:(x:Int)%16=13:=xaa;exact xfr
 ·have bm:=bT.o;rw[hJ xaa,hJ xaa,hJ xaa,hJ xaa,hJ xaa,hJ xaa,hJ xaa,hK xaa]at bm;have bx:V _:=bm;clear bT bm;have aV:=f.o xaa;clear aW g f;have o:V _:=aV;clear aV;have HK:V ((x:Int)%16=14):=by show(x:Int)%16=14;omega
  have ae:=HK.o;clear O;go_wp2_with fail;clear f1 f2 f3 ae au;go_loopw [9,10] (λb t W=>∃j:Nat,j<=8/\t=hI (j:Nat)/\b=.int .u64 (dfB bs (ni bs i) j)/\RdF W P a n cap (niN bs (ni bs i) j) bs/\Kept P (P+1) w W) (λ_ t _=>8-(intOf t).toNat)
  case atStart=>exact⟨0,by omega,rfl,rfl,B,U⟩
  case round=>
   obtain⟨j,hj,rfl,rfl,C,aS⟩:=hrel;by_cases aF:j<8
   ·exact xge
   have l:j=8:=xaa;have ae:=HK.o;have aI:V _:=Ga bs (ni bs i) j;have HR:V _:=C;rw[l]at HR;rw[l]at aI⊢;clear C l hj;go_wp2_with fail;obtain⟨an,bv,aN⟩:=Nn (dfB bs (ni bs i) 8) (IntKind.u64.wrap (IntKind.u64.wrap (wrap64 ((x:Int)/16))*576460752303423488)) aI.o.1 aI.o.2 (wrap_u64_nonneg _) (rV _);have bQ:V (fb an=S):=by show _=_;rw[bx.o,bv];rfl
   rw[bv];refine(zo an _ aN).mono ?_;rintro e af ⟨y,rfl,bV,bh,m,rfl⟩;replace bQ:V _:=bV.trans bQ.o;clear bv aN bV ae;exact xjp
 have bm:=bT.o;rw[hJ xaa,hJ xaa,hJ xaa,hJ xaa,hJ xaa,hJ xaa,hJ xaa,hJ xaa]at bm;have bx:V _:=bm;clear bT bm;have aV:=f.o xaa;clear aW g f;have o:V _:=aV;clear aV;have HK:V ((x:Int)%16=15):=by show(x:Int)%16=15;omega
 have ae:=HK.o;clear O;go_wp2_with fail;clear f1 f2 f3 ae au;go_loopw [9,10] (λb t W=>∃j:Nat,j<=8/\t=hI (j:Nat)/\b=.int .u64 (dfB bs (ni bs i) j)/\RdF W P a n cap (niN bs (ni bs i) j) bs/\Kept P (P+1) w W) (λ_ t _=>8-(intOf t).toNat)
 case atStart=>exact⟨0,by omega,rfl,rfl,B,U⟩
 case round=>
  obtain⟨j,hj,rfl,rfl,C,aS⟩:=hrel;by_cases aF:j<8
  ·exact xge
  have l:j=8:=xaa;have ae:=HK.o;have aI:V _:=Ga bs (ni bs i) j;have HR:V _:=C;rw[l]at HR;rw[l]at aI⊢;clear C l hj;go_wp2_with fail;obtain⟨an,bv⟩:=Int.eq_ofNat_of_zero_le aI.o.1;have aN:an<18446744073709551616:=hR aI.o.2
  have bQ:V (fb an=S):=by show _=_;rw[bx.o,bv];rfl
  rw[bv];clear bv;refine(zo an _ aN).mono ?_;rintro e af ⟨y,rfl,bV,bh,m,rfl⟩;replace bQ:V _:=bV.trans bQ.o;clear bV ae;exact xjp
end
section
attribute [local go_sem] eG eE eD
variable {q lo base I j g m l h c i:Nat}{J W':World}{aC:Option Nat}{am v al ar u:Value}{b:Option Addr}{xs:List Nat}{Vs:List (List Nat)}{ins outs bs:List Int}{vs:List Vl}
structure DG (w:World)(B:Nat)(u1 u2 u3:Value)(ins:List Int)(vs:List Vl)(outs:List Int):Prop where
 r1:w.ownsRow B 3 1 u1 ins.length (ins.map (Value.int .i64))
 r2:w.ownsRow B 53 6 u2 vs.length (fQ vs)
 r3:w.ownsRow B 3 1 u3 outs.length (outs.map (Value.int .i64))
 a12:Apart u1 u2
 a13:Apart u1 u3
 a23:Apart u2 u3
 k:∀v∈vs,v.k<18446744073709551616
 sz:B<=w.heap.size
theorem DG.kept{w}(f:DG w I am al ar ins vs outs)(k:Kept l h w J)(b3:h<=I):DG J I am al ar ins vs outs:=
 ⟨gM f.r1 k λ_ e=>.inr (yan b3 (eI f.r1 e).1),gM f.r2 k λ_ e=>.inr (yan b3 (eI f.r2 e).1),gM f.r3 k λ_ e=>.inr (yan b3 (eI f.r3 e).1),f.a12,f.a13,f.a23,f.k,yan f.sz k.size⟩
theorem DG.keep{w}(f:DG w I am al ar ins vs outs)(k:Kept 0 0 w J):DG J I am al ar ins vs outs:=f.kept k (Nat.zero_le _)
theorem RdF.keep0{w P a n cap}(f:RdF w P a n cap i bs)(k:Kept 0 0 w J):RdF J P a n cap i bs:=f.keep k yab
theorem fw{w}(k:Kept 0 0 w J):Kept l h w J:=⟨k.os,k.tape,k.output,k.size,λi hi _=>k.block i hi xaa⟩
theorem RB.kept{W p bb N aA}(t:RB W p bb N aA)(k:Kept l h W W')(aK:p<l\/h<=p):RB W' p bb N aA:=
 have e:∀o,W'.cell? ⟨p,o,none⟩=W.cell? ⟨p,o,none⟩:=λo=>k.cell (p:=⟨p,o,none⟩) t.sz (by show ¬(l<=p/\p<h);omega)
 have x:∀o,W'.frozen? ⟨p,o,none⟩=W.frozen? ⟨p,o,none⟩:=λo=>k.frozen (p:=⟨p,o,none⟩) t.sz (by show ¬(l<=p/\p<h);omega)
 ⟨yaj t.sz k.size,hU e t.q0,hU e t.q1,hU e t.q2,hU x t.f0,hU x t.f1,hU x t.f2⟩
def nK (vs:List Vl)(n:Int)(fr:Nat):Nat->Nat->Int
 |0,_=>-1
 |m+1,k=>if (vs.getD ((fr+k)%vs.length) hM).len=n then (((fr+k)%vs.length:Nat):Int)else nK vs n fr m (k+1)
def jW (vs:List Vl)(n:Int)(fr:Nat):Int:=nK vs n fr vs.length 0
theorem ie{W n}(h:W.ownsRow I 53 6 u n (fQ vs))(ah:vs.length=n){k}(O:k<n):∃g cap,u=hH g n cap/\I<=g/\g<W.heap.size/\At W g (k*6) (vs.getD k hM):=by
 obtain⟨g,cap,e,B,R,_,a8⟩:=ng h xaa ah;exact⟨g,cap,e,B,R,a8.at_ k O⟩
theorem Pf{w P a a1 a2 a3 n cap Y c1 U c2 Z c3}(R:w.ownsRow I 53 6 (.slice a2 U c2) U (fQ vs))(ah:vs.length=U)(hn:U<=100000)(C:RdF w P a n cap i bs)(hP:P<I)(q):
  Calls prog 60 #[eZ a1 Y c1 a2 U c2 a3 Z c3,hI q,hG P] w λe J=>e=.returned (hI (jW vs q (nv bs i)))/\RdF J P a n cap (ni bs i) bs/\Kept P (P+1) w J:=by
 have H:=ez 0 0 w (eY a1 Y c1 a2 U c2 a3 Z c3);have bK:=fK C.ys i;have aI:V _:=fE w (.slice a1 Y c1) (.slice a2 U c2) (.slice a3 Z c3);have bD:V _:=jp _ P a n cap i bs (C.keep0 H);have HK:V _:=H;have HO:V _:=e8 R H;have ad:V (jW vs q (nv bs i)=nK vs q (nv bs i) (U-0) 0):=by show nK vs q (nv bs i) vs.length 0=_;rw[ah];rfl
 have cI:V (P≠w.heap.size):=by have:=C.lt;show P≠_;omega
 generalize jW vs q (nv bs i)=r at ad⊢;generalize nv bs i=x at bD ad bK;have HL:V (vs.length=U):=ah;clear H R C ah;go_enter func60,ntmps60;go_wp2_with fail;refine yai bD.o ?_;rintro e af ⟨rfl,(aJ:V _),ao,cc⟩;clear cc;have bN:V (Kept P (P+1) w af):=(fw HK.o).trans ao;have ai:V _:=gM HO.o ao λ_ e=>.inr (hR ((eI HO.o e).1));have bl:V (∀o,af.cell? ⟨w.heap.size,o,none⟩=(w.alloc (eY a1 Y c1 a2 U c2 a3 Z c3)).cell? ⟨w.heap.size,o,none⟩):=λo=>ao.cell (p:=⟨w.heap.size,o,none⟩) xac (by show ¬(P<=w.heap.size/\w.heap.size<P+1);have:=cI.o;omega);have aO:af.cell? ⟨w.heap.size,1,none⟩=some (.slice a2 U c2):=by rw[bl.o];obtain⟨_,_,aZ,_⟩:=aI.o;exact aZ
 clear ao HK HO bD bl aI;go_wp2_with fail;go_loopw [8] (λt W=>∃k:Nat,k<=U/\t=hI k/\V (r=nK vs q x (U-k) k)/\W=af) (λt _=>U-(intOf t).toNat)
 case atStart=>exact⟨0,Nat.zero_le _,rfl,ad.o,rfl⟩
 case round=>
  obtain⟨k,O,rfl,ay,rfl⟩:=hrel;by_cases aF:k<U
  ·have az:(x+k)%U<U:=Nat.mod_lt _ xaa;obtain⟨g,bR,ag,ak,a5,bg⟩:=ie ai.o HL.o az;cases ag;have aU:=bg.c1;have s:((x:Int)+k)%(U:Int)=(((x+k)%U:Nat):Int):=by rw[Int.natCast_emod,Int.natCast_add]
   have HR:V (r=if (vs.getD ((x+k)%U) hM).len=q then (((x+k)%U:Nat):Int)else nK vs q x (U-(k+1)) (k+1)):=by
    have e:U-k=(U-(k+1))+1:=xaa;have:=ay.o;rw[e,nK,HL.o]at this;exact this
   clear ay bg;generalize (vs.getD ((x+k)%U) hM).len=z at aU HR;generalize (x+k)%U=j at az aU HR s;by_cases bp:z=q
   ·subst bp;have p:V (r=(j:Int)):=HR.o.trans (hK rfl);clear HR ad;go_wp2;go_ret;exact⟨by rw[p.o,<-s];rfl,aJ.o,bN.o⟩
   have p:V _:=HR.o.trans (hJ bp);clear HR ad;go_wp2;go_roundw
   case rel=>exact⟨k+1,by omega,by go_num,p.o,trivial⟩
   case measure=>simp[intOf];omega
  have bY:k=U:=xaa;have p:V (r=-1):=by have:=ay.o;rw[bY,Nat.sub_self,nK]at this;exact this
  clear ay ad bY;go_wp2;go_ret;exact⟨hX p.o,aJ.o,bN.o⟩
theorem B4{w P a n cap}(h:RdF w P a n cap i bs):
  Calls prog 33 #[hG P] w λe J=>e=.returned (hI ((bs.length:Int)-i))/\Kept 0 0 w J:=by
 have aj:=h.c0;have B:=h.c1;have hn:=h.small;have hi:=h.hi;have ah:V (n=bs.length):=h.ys.len.symm;clear h;go_enter func33,ntmps33;go_wp2;go_quiet (fail)
 go_wp2;go_ret;exact⟨by rw[<-ah.o];rfl,eM _ _ _ _⟩
theorem FS.setS{w hi a n}(f:FS w lo hi a n xs){k}(ai:w.cell? ⟨g,k,none⟩=some u)(aJ:∀x,u≠.float .f64 x)(v):FS (w.setCell ⟨g,k,none⟩ v) lo hi a n xs:=
 ⟨f.len,f.lt,by
  rcases f.at_ with aj|⟨aG,off,e,B,R,h3,a8⟩
  ·exact .inl aj
  ·refine .inr ⟨aG,off,e,B,R,by simpa using h3,λj hj=>?_⟩
   by_cases c:g=aG/\k=off+j
   ·obtain⟨rfl,rfl⟩:=c
    have:=a8 j hj
    rw[ai]at this
    injection this with this
    exact absurd this (aJ _)
   ·rw[eO _ _ _ _ _ _ xaa];exact a8 j hj⟩
theorem Cl.setS{w y}(f:Cl w y xs){k}(ai:w.cell? ⟨g,k,none⟩=some u)(aJ:∀x,u≠.float .f64 x)(v):Cl (w.setCell ⟨g,k,none⟩ v) y xs:=by
 exact xim
theorem iG(b n c):∀x,(Value.slice b n c)≠.float .f64 x:=λ_ h=>by cases h
structure LV (w:World)(g n k:Nat)(Vs:List (List Nat)):Prop where
 lt:g<w.heap.size
 free:∀o,w.frozen? ⟨g,o,none⟩=false
 at_:∀j,j<n->∃b m c,w.cell? ⟨g,j,none⟩=some (.slice b m c)/\(j<k->Cl w (.slice b m c) (Vs.getD j []))
theorem LV.keep{w n k}(f:LV w g n k Vs)(q:Kept 0 0 w J):LV J g n k Vs:=
 ⟨yaj f.lt q.size,λo=>by rw[q.frozen (p:=⟨g,o,none⟩) f.lt xaa];exact f.free o,λj hj=>by
  obtain⟨b,m,c,B,R⟩:=f.at_ j hj
  exact⟨b,m,c,jh q f.lt B,λh=>(R h).keep q⟩⟩
theorem LV.made(w:World)(n Vs):LV (w.alloc (.cells (madeCells #[.slice none 0 0] n) 47)) w.heap.size n 0 Vs where
 lt:=by simp
 free:=λo=>by simp
 at_:=λj hj=>by
  rw[yau]
  refine⟨none,0,0,?_,λh=>absurd h (Nat.not_lt_zero _)⟩
  simp only[madeCells]
  rw[Array.getElem?_map,Array.getElem?_range,hK hj]
  have az:j%1=0:=Nat.mod_one j
  simp[az]
theorem LV.step{w n k xss}(f:LV w g n k (eU xss vs k))(O:k<n)(q:Kept 0 0 w J)(aJ:Cl J (.slice b m c) (one xss (vs.getD k hM) (eU xss vs k))):
  LV (J.setCell ⟨g,k,none⟩ (.slice b m c)) g n (k+1) (eU xss vs (k+1)):=by
 have p:=f.keep q;obtain⟨bb,S,c0,ai,_⟩:=p.at_ k O;refine⟨by simpa using p.lt,λo=>by simp[p.free o],λj hj=>?_⟩;by_cases e:j=k
 ·subst e;exact⟨b,m,c,fJ _ _ _ _ _ ai,λ_=>by rw[jy];exact aJ.setS ai (iG _ _ _) _⟩
 obtain⟨N,m1,c1,B,R⟩:=p.at_ j hj;refine⟨N,m1,c1,by rw[eO _ _ _ _ _ _ (.inr (Ne.symm e))];exact B,λh=>?_⟩;rw[i5 _ _ xaa];exact(R xaa).setS ai (iG _ _ _) _
theorem mi{n}(F:Nat->List Nat)(h:j<n):((List.range n).map F).getD j []=F j:=by
 simp[List.getD_eq_getElem?_getD,h]
theorem LV.ss{w n}(f:LV w g n n Vs):∃y,SS w (some ⟨g,0,none⟩) n y/\∀j,j<n->fU (y.getD j []) (Vs.getD j []):=by
 have h:∀j,∃zs:List Nat,j<n->∃b c,w.cell? ⟨g,j,none⟩=some (.slice b zs.length c)/\zs.length<=c/\FS w 0 w.heap.size b zs.length zs/\fU zs (Vs.getD j []):=λj=>by
  by_cases hj:j<n
  ·obtain⟨b,m,c,B,R⟩:=f.at_ j hj
   obtain⟨ak,r,aP,zs,e,a1,a2,a3⟩:=R hj
   exact xkl
  ·exact⟨[],λc=>absurd c hj⟩
 obtain⟨F,bu⟩:=Classical.axiomOfChoice h;refine⟨(List.range n).map F,⟨by simp,.inr ⟨g,0,rfl,f.lt,λk O=>?_⟩⟩,λj hj=>?_⟩
 ·rw[mi F O,Nat.zero_add];obtain⟨b,c,a1,a2,a3,_⟩:=bu k O;exact⟨b,c,a1,a2,a3⟩
 rw[mi F hj];obtain⟨b,c,_,_,_,a4⟩:=bu j hj;exact a4
theorem kO{e size n:Nat}{xs W}(h:W.ownsRow base e size v n xs)(k:Kept 0 0 W W'):W'.ownsRow base e size v n xs:=by
 refine⟨h.1,h.2.imp id ?_⟩;rintro⟨g,cap,H,ae,N,aA,ab⟩;refine⟨g,cap,H,ae,N,?_,ab⟩
 have aW:g<W.heap.size:=by
  exact xdo
 rw[k.block g aW xaa];exact aA
theorem FS.grown{W n zs}(f:FS W 0 W.heap.size b n zs)(aW:W.grownBy W' aC)(bT:0<n->∀p,b=some p->aC≠some p.block):FS W' 0 W'.heap.size b n zs:=
 ⟨f.len,f.lt,by
  rcases f.at_ with aj|⟨aG,off,e,B,R,h3,a8⟩
  ·exact .inl aj
  ·refine .inr ⟨aG,off,e,B,yaj h3 aW.size,yaj h3 aW.size,λj hj=>?_⟩
   rw[aW.cell_far ⟨aG,off+j,none⟩ h3 (λc=>bT xaa _ e c.symm)]
   exact a8 j hj⟩
theorem Cl.grown{W n}(f:Cl W (.slice b n c) xs)(aW:W.grownBy W' aC)(bT:0<n->∀p,b=some p->aC≠some p.block):Cl W' (.slice b n c) xs:=by
 obtain⟨ak,r,aP,zs,e,R,h3,a8⟩:=f;cases e;exact⟨b,n,c,zs,rfl,R,h3.grown aW bT,a8⟩
theorem Cl.lt{W n}(f:Cl W (.slice b n c) xs)(hn:0<n)(p)(aK:b=some p):p.block<W.heap.size:=by
 obtain⟨ak,r,aP,zs,e,R,h3,a8⟩:=f;cases e;rcases h3.at_ with aj|⟨aG,off,e,B,R,h3,a8⟩
 ·omega
 rw[e]at aK;cases aK;exact h3
theorem Cn.ge{W n}(f:Cn W lo (.slice b n c) xs)(hn:0<n)(p)(aK:b=some p):lo<=p.block:=by
 obtain⟨ak,r,aP,zs,e,R,h3,a8⟩:=f;cases e;rcases h3.at_ with aj|⟨aG,off,e,B,R,h3,a8⟩
 ·omega
 rw[e]at aK;cases aK;exact B
def AR (W:World)(base:Nat)(v:Value)(k:Nat)(Vs:List (List Nat)):Prop:=
 ∃us:List Value,W.ownsRow base 47 1 v k us/\∀j,j<k->∃b n c,us[j]? =some (.slice b n c)/\Cl W (.slice b n c) (Vs.getD j [])/\(0<n->∀p,b=some p->v.ownBlock≠some p.block)
theorem AR.nil(W base Vs):AR W base (.slice none 0 0) 0 Vs:=⟨[],yav _ _ _ _,λ_ hj=>absurd hj (Nat.not_lt_zero _)⟩
theorem AR.keep{W k}(f:AR W base v k Vs)(q:Kept 0 0 W W'):AR W' base v k Vs:=by
 obtain⟨us,B,R⟩:=f;refine⟨us,kO B q,λj hj=>?_⟩;obtain⟨b,n,c,a1,a2,a3⟩:=R j hj;exact⟨b,n,c,a1,a2.keep q,a3⟩
theorem AR.cell{W k}(f:AR W base v k Vs)(O:0<k):
  ∃g cap,v=hH g k cap/\base<=g/\g<W.heap.size/\∀j,j<k->∃b n c,W.cell? ⟨g,j,none⟩=some (.slice b n c)/\Cl W (.slice b n c) (Vs.getD j [])/\(0<n->∀p,b=some p->g≠p.block):=by
 obtain⟨us,B,R⟩:=f;rcases B.2 with⟨_,c⟩|⟨g,cap,H,rfl,N,aA,ab,_,b9,cn⟩
 ·omega
 have aW:g<W.heap.size:=by
  exact xdo
 refine⟨g,cap,rfl,N,aW,λj hj=>?_⟩;obtain⟨b,n,c,a1,a2,a3⟩:=R j hj;refine⟨b,n,c,?_,a2,λhn p aK e=>a3 hn p aK (by rw[<-e];rfl)⟩;rw[cell_of_row W g _ H _ _ aA,<-Array.getElem?_toList];have:(H.toList.take (k*1))[j]? =us[j]?:=by rw[cn]
 rw[List.getElem?_take_of_lt xaa]at this;rw[this,a1]
theorem AR.step{W k us}(B:W.ownsRow base 47 1 v k us)
  (R:∀j,j<k->∃b n c,us[j]? =some (.slice b n c)/\Cl W (.slice b n c) (Vs.getD j [])/\(0<n->∀p,b=some p->v.ownBlock≠some p.block))
  {o}{n}{x} (ap:Cl W (.slice b n c) x) (hn:0<n->∀p,b=some p->v.ownBlock≠some p.block) {cap}{bo}
  (bB:bo.ownsRow base 47 1 (hH g (k+1) cap) (k+1) (us++[.slice b n c])) (aW:(W.alloc o).grownBy bo v.ownBlock) (bg:v.ownBlock=some g\/g=(W.alloc o).heap.size)
  {f} (ae:∀j,j<k->f.getD j []=Vs.getD j []) (a9:f.getD k []=x):AR bo base (hH g (k+1) cap) (k+1) f:=by
 have ah:us.length=k:=hR B.1
 have bH:=ez 0 0 W o;have ad:W.heap.size<(W.alloc o).heap.size:=by simp
 have aw:∀(b:Option Addr) (n c:Nat) (x:List Nat),Cl W (.slice b n c) x->(0<n->∀p,b=some p->v.ownBlock≠some p.block)->Cl bo (.slice b n c) x/\(0<n->∀p,b=some p->(hH g (k+1) cap).ownBlock≠some p.block):=λb n c x ai aL=>
  ⟨(ai.keep bH).grown aW aL,λaj p aK e=>by
    have C:g=p.block:=by simpa[Value.ownBlock] using e
    rcases bg with h|h
    ·exact aL aj p aK (by rw[h,C])
    ·have:=ai.lt aj p aK
     omega⟩
 refine⟨_,bB,λj hj=>?_⟩;by_cases aP:j<k
 ·obtain⟨ak,r,s,a1,a2,a3⟩:=R j aP;obtain⟨an,ao⟩:=aw _ _ _ _ a2 a3;exact⟨ak,r,s,by rw[yas xaa];exact a1,by rw[ae j aP];exact an,ao⟩
 have:j=k:=xaa;subst this;obtain⟨an,ao⟩:=aw _ _ _ _ ap hn;exact⟨b,n,c,by rw[yar xaa,ah,Nat.sub_self];rfl,hU a9 an,ao⟩
theorem AR.ss{W k}(f:AR W base v k Vs):∃a cap y,v=.slice a k cap/\SS W a k y/\∀j,j<k->fU (y.getD j []) (Vs.getD j []):=by
 rcases Nat.eq_zero_or_pos k with aj|aj
 ·subst aj;obtain⟨us,B,_⟩:=f;rcases B.2 with⟨rfl,_⟩|⟨g,cap,H,rfl,_⟩
  ·exact⟨none,0,[],rfl,⟨rfl,.inl rfl⟩,λj hj=>absurd hj (Nat.not_lt_zero _)⟩
  exact⟨_,cap,[],rfl,⟨rfl,.inl rfl⟩,λj hj=>absurd hj (Nat.not_lt_zero _)⟩
 obtain⟨g,cap,rfl,_,aW,ai⟩:=f.cell aj
 have h:∀j,∃zs:List Nat,j<k->∃b c,W.cell? ⟨g,j,none⟩=some (.slice b zs.length c)/\zs.length<=c/\FS W 0 W.heap.size b zs.length zs/\fU zs (Vs.getD j []):=λj=>by
  by_cases hj:j<k
  ·obtain⟨b,m,c,B,R,_⟩:=ai j hj
   obtain⟨ak,r,aP,zs,e,a1,a2,a3⟩:=R
   exact xkl
  ·exact⟨[],λc=>absurd c hj⟩
 obtain⟨F,bu⟩:=Classical.axiomOfChoice h;refine⟨_,cap,(List.range k).map F,rfl,⟨by simp,.inr ⟨g,0,rfl,aW,λj hj=>?_⟩⟩,λj hj=>?_⟩
 ·rw[mi F hj,Nat.zero_add];obtain⟨b,c,a1,a2,a3,_⟩:=bu j hj;exact⟨b,c,a1,a2,a3⟩
 rw[mi F hj];obtain⟨b,c,_,_,_,a4⟩:=bu j hj;exact a4
theorem uG(w)(len A I C:Int)(K g n c m b5 b xss)(aT:SS w b m xss)(aj:0<=A)(B:A<m):
  Calls prog 25 #[ii 0 len A I C K,hH g n c,.slice b m b5] w λe J=>∃ak r aP,e=.returned (.slice ak r aP)/\Cl J (.slice ak r aP) (xss.getD A.toNat [])/\Kept 0 0 w J:=by
 obtain⟨j,rfl⟩:∃j:Nat,A=j:=⟨A.toNat,by omega⟩
 rw[Int.toNat_natCast];rcases aT.at_ with z|⟨bH,ab,rfl,aU,aY⟩
 ·omega
 obtain⟨aA,F,c2,c3,c4⟩:=aY j xaa;have aH:=ez 0 0 w (eK 0 len j I C K);have aa:V (Cl (w.alloc (eK 0 len j I C K)) (.slice aA (xss.getD j []).length F) (xss.getD j [])):=Cl.keep ⟨_,_,_,_,rfl,c3,c4,rfl⟩ aH;have c5:=jh aH aU c2;clear c2 c3 c4 aY aT;generalize xss.getD j []=xs at aa c5⊢;go_enter func25,ntmps25;go_wp2;go_ret;exact⟨_,_,_,rfl,aa.o,aH⟩
def opl (v:Vl)(Vs:List (List Nat))(q:Nat):List (List Nat):=[if 0<q then Vs.getD v.a.toNat [] else[],if 1<q then Vs.getD v.b.toNat [] else[],if 2<q then Vs.getD v.c.toNat [] else[]]
def kop (v:Vl)(Vs:List (List Nat)):List Nat:=iW v.op v.len v.c v.k ((opl v Vs (cnt v.op)).getD 0 []) ((opl v Vs (cnt v.op)).getD 1 []) ((opl v Vs (cnt v.op)).getD 2 [])
theorem J4(v Vs)(aq:q<3):(opl v Vs q).set q (Vs.getD ([v.a,v.b,v.c].getD q 0).toNat [])=opl v Vs (q+1):=by
 have:q=0\/q=1\/q=2:=xaa;rcases this with rfl|rfl|rfl<;>simp[opl]
theorem zx(v)(aq:q<cnt v.op):(eW v).getD q 0=[v.a,v.b,v.c].getD q 0:=by
 unfold eW;rw[yah,yah,List.getElem?_take_of_lt aq]
theorem LV.put{w J g n Vs}(f:LV w g n n Vs){j}(hj:j<n)(ah:Vs.length=n)(q:Kept 0 0 w J){b m c x}(aJ:Cl J (.slice b m c) x):
  LV (J.setCell ⟨g,j,none⟩ (.slice b m c)) g n n (Vs.set j x):=by
 have p:=f.keep q;obtain⟨bb,S,c0,ai,_⟩:=p.at_ j hj;refine⟨by simpa using p.lt,λo=>by simp[p.free o],λi hi=>?_⟩;by_cases e:i=j
 ·subst e;refine⟨b,m,c,fJ _ _ _ _ _ ai,λ_=>?_⟩;rw[yah,List.getElem?_set,hK rfl,hK xaa];exact aJ.setS ai (iG _ _ _) _
 obtain⟨N,m1,c1,B,R⟩:=p.at_ i hi;refine⟨N,m1,c1,by rw[eO _ _ _ _ _ _ (.inr (Ne.symm e))];exact B,λh=>?_⟩;rw[yah,List.getElem?_set,hJ (Ne.symm e),<-yah];exact(R h).setS ai (iG _ _ _) _
theorem LV.other{w n k P}(f:LV w g n k Vs)(bT:P≠g)(ai:w.cell? ⟨P,j,none⟩=some u)(aJ:∀x,u≠.float .f64 x)(v):LV (w.setCell ⟨P,j,none⟩ v) g n k Vs:=by
 refine⟨by simpa using f.lt,λo=>by simp[f.free o],λi hi=>?_⟩;obtain⟨N,m1,c1,B,R⟩:=f.at_ i hi;exact⟨N,m1,c1,by rw[eO _ _ _ _ _ _ (.inl bT)];exact B,λh=>(R h).setS ai aJ _⟩
theorem Du(w:World):LV (w.alloc (.cells #[.slice none 0 0,.slice none 0 0,.slice none 0 0] 75)) w.heap.size 3 3 [[],[],[]] where
 lt:=by simp
 free:=λo=>by simp
 at_:=λj hj=>by
  have:j=0\/j=1\/j=2:=xaa
  refine⟨none,0,0,?_,λ_=>?_⟩
  ·rcases this with rfl|rfl|rfl<;>simp
  ·rcases this with rfl|rfl|rfl<;>exact Cl.nil _
theorem B5(w:World)(v):At (w.alloc (eK v.op v.len v.a v.b v.c v.k)) w.heap.size 0 v:=by
 exact xhf
theorem pB(w v)(aj:v.op≠0)(g n c m b5 k b Vs)(bO:LV w g n k Vs)(b4:k<=n)(O:v.k<18446744073709551616)(U:gZ Vs)(B:(eW v).all (fI · k)=true):
  Calls prog 25 #[v.agg,hH g n c,.slice b m b5] w λe J=>∃ak r aP,e=.returned (.slice ak r aP)/\Cn J w.heap.size (.slice ak r aP) (kop v Vs)/\Kept 0 0 w J:=by
 have t:(v.op==0)=false:=yam aj;have ai:=gK v.op;have an:=ez 0 0 w (eK v.op v.len v.a v.b v.c v.k);have ao:=ez 0 0 (w.alloc (eK v.op v.len v.a v.b v.c v.k)) (.cells #[.slice none 0 0,.slice none 0 0,.slice none 0 0] 75);have bf:V _:=Du (w.alloc (eK v.op v.len v.a v.b v.c v.k));have bT:V _:=(B5 w v).keep xac ao yaa;have HL:V _:=bO.keep (an.trans ao);have HK:V _:=an.trans ao;have cd:V (w.heap.size+1<((w.alloc (eK v.op v.len v.a v.b v.c v.k)).alloc (.cells #[.slice none 0 0,.slice none 0 0,.slice none 0 0] 75)).heap.size):=by show _<_;simp
 have a5:V (g<w.heap.size):=bO.lt;have bx:V _:=U;have H1:V _:=B;clear aj an ao bO U B;obtain⟨ay,bc,bd,bg,Z,s⟩:=bT.o;go_enter func25,ntmps25;go_wp2_with fail;clear ay bc bd bg Z s;generalize ((w.alloc (eK v.op v.len v.a v.b v.c v.k)).alloc (.cells #[.slice none 0 0,.slice none 0 0,.slice none 0 0] 75))=aB at bf bT HL HK cd⊢;refine(m9 _ v).mono ?_;rintro e af ⟨G,rfl,bB,bq,aM⟩;have bX:V _:=bB
 have br:LV af (w.heap.size+1) 3 3 (opl v Vs 0):=by
  have:=bf.o.keep aM;rw[show(w.alloc (eK v.op v.len v.a v.b v.c v.k)).heap.size=w.heap.size+1 by simp]at this;exact this
 have f:=bT.o.keep (hR cd.o) aM yaa;have Y:=HL.o.keep aM;have F:=HK.o.trans aM;have cr:V _:=br;have p:V _:=f;have C:V _:=Y;have bN:V _:=F;have cz:V (aB.heap.size<=af.heap.size):=aM.size;clear bB br f Y F aM bf bT HL HK;go_wp2_with fail;go_loopw [21] (λi W=>∃q:Nat,q<=cnt v.op/\i=hI q/\V (LV W (w.heap.size+1) 3 3 (opl v Vs q))/\V (At W w.heap.size 0 v)/\V (LV W g n k Vs)/\V (IS W aB.heap.size af.heap.size (some ⟨G,0,none⟩) (cnt v.op) (eW v))/\V (Kept 0 0 w W)) (λi _=>cnt v.op-(intOf i).toNat)
 case atStart=>exact⟨0,Nat.zero_le _,rfl,cr,p,C,bX,bN⟩
 case round=>
  obtain⟨q,aq,rfl,a7,z,bO,bB,aH⟩:=hrel;clear cr p C bX bN;by_cases aF:q<cnt v.op
  ·rcases bB.o.at_ with bM|⟨aG,bF,b1,aZ,be,bz,bE⟩
   ·omega
   have c1:=bE q aF;cases b1
   obtain⟨o,av⟩:∃o:Nat,(eW v).getD q 0=o/\o<k:=by
    have h:=List.all_eq_true.1 H1.o ((eW v).getD q 0) (by
     rw[yah,yal (by rw[jP];exact aF)]
     exact List.getElem_mem _)
    have:=of_decide_eq_true h;exact⟨((eW v).getD q 0).toNat,by omega,by omega⟩
   rw[av.1,Nat.zero_add]at c1;obtain⟨N,m1,d1,c2,c3⟩:=bO.o.at_ o xaa;have c4:=c3 av.2;obtain⟨bb,S,bD,c5,_⟩:=a7.o.at_ q xaa;have co:=a7.o.free q
   have R1:V (LV (wr.setCell ⟨w.heap.size+1,q,none⟩ (.slice N m1 d1)) (w.heap.size+1) 3 3 (opl v Vs (q+1))):=by
    have:=a7.o.put (j:=q) xaa rfl (Kept.refl _ _ _) c4;rw[<-J4 v Vs xaa,<-zx v aF,av.1];exact this
   have K:Kept (w.heap.size+1) (w.heap.size+2) wr (wr.setCell ⟨w.heap.size+1,q,none⟩ (.slice N m1 d1)):=eX _ _ _ yac;have R2:V _:=z.o.keep (hR a7.o.lt) K (.inl xaa);have R3:V _:=bO.o.other (hR a5.o) c5 (iG _ _ _) (.slice N m1 d1);have bm:V _:=bB.o.keep K (.inr (.inl (hR cd.o)));have cp:V _:=aH.o.new K xaa;have H:q<3:=xaa;have Q:o<n:=xaa;clear aZ be bz bE c3 c4 K a7 z bO bB aH H1 av;go_wp2;go_roundw
   case rel=>exact⟨q+1,by omega,by go_num,R1,R2,R3,bm,cp⟩
   case measure=>simp[intOf];omega
  obtain rfl:q=cnt v.op:=xaa;obtain⟨bb,S,bD,c0,bl⟩:=a7.o.at_ 0 xaa;obtain⟨N,m1,d1,c1,ae⟩:=a7.o.at_ 1 xaa;obtain⟨aA,aJ,d2,c2,a9⟩:=a7.o.at_ 2 xaa;have HE:V _:=zv wr v O _ _ _ _ _ _ (bl xaa) (ae xaa) (a9 xaa) (kD (bx.o _));obtain⟨ay,bc,bd,bg,Z,s⟩:=z.o;clear bl ae a9 a7 bO bB;go_wp2_with fail;refine yai HE.o ?_;rintro e bo ⟨u,rfl,aK,aI⟩;obtain⟨cg,n9,ah,zs,rfl,R,h3,a8⟩:=aK;have aa:V _:=aH.o.trans aI;have R2:V (Cn bo w.heap.size (.slice cg n9 ah) (kop v Vs)):=⟨cg,n9,ah,zs,rfl,R,h3.mono aH.o.size yad,a8⟩
  clear HE c0 c1 c2 ay bc bd bg Z s R h3 a8 aI aH z;go_wp2;go_ret;exact⟨cg,n9,ah,rfl,R2.o,aa.o⟩
theorem Ba(w)(v:Vl)(g n c m b5 k b xss Vs)(bO:LV w g n k Vs)(aT:SS w b m xss)(b4:k<=n)(O:v.k<18446744073709551616)(U:gZ Vs)(aj:v.op=0->0<=v.a/\v.a<m)(B:v.op≠0->(eW v).all (fI · k)=true):
  Calls prog 25 #[v.agg,hH g n c,.slice b m b5] w λe J=>∃ak r aP,e=.returned (.slice ak r aP)/\Cl J (.slice ak r aP) (one xss v Vs)/\Kept 0 0 w J:=by
 unfold one;by_cases h:v.op=0
 ·rw[hK h];have:=uG w v.len v.a v.b v.c v.k g n c m b5 b xss aT (aj h).1 (aj h).2;rw[<-h]at this;exact this
 rw[hJ h];exact(pB w v h g n c m b5 k b Vs bO b4 O U (B h)).mono λ_ _ ⟨ak,r,aP,aO,aR,b2⟩=>⟨ak,r,aP,aO,aR.cl,b2⟩
variable {w W W':World}{P n cap i nE cE:Nat}{a aE:Option Addr}{bs:List Int}{env:List (List UInt8×Int)}
structure En (w:World)(P:Nat)(aE:Option Addr)(nE:Nat)(env:List (List UInt8×Int)):Prop where
 len:env.length=nE
 le:nE<=100
 at_:∀k,k<nE->∃g,aE=some ⟨g,0,none⟩/\P<g/\g<w.heap.size/\w.cell? ⟨g,k*2,none⟩=some (eN (env.getD k ([],0)).1)/\w.cell? ⟨g,k*2+1,none⟩=some (.int .i64 (env.getD k ([],0)).2)
theorem En.keep(f:En w P aE nE env)(k:Kept P (P+1) w W):En W P aE nE env:=
 ⟨f.len,f.le,λj hj=>by
  obtain⟨g,e,B,R,c0,c1⟩:=f.at_ j hj
  exact⟨g,e,B,yaj R k.size,(k.cell (p:=⟨g,_,none⟩) R (by show ¬(P<=g/\g<P+1);omega)).trans c0,(k.cell (p:=⟨g,_,none⟩) R (by show ¬(P<=g/\g<P+1);omega)).trans c1⟩⟩
theorem En.keep0(f:En w P aE nE env)(k:Kept 0 0 w W):En W P aE nE env:=f.keep (fw k)
def ofG (env:List (List UInt8×Int))(q:Int)(c:Nat):Nat->Nat->List UInt8
 |0,_=>[]
 |m+1,k=>if (env.getD ((k+c)%env.length) ([],0)).2=q then (env.getD ((k+c)%env.length) ([],0)).1 else ofG env q c m (k+1)
def ofM (env:List (List UInt8×Int))(q:Int)(c:Nat):List UInt8:=ofG env q c env.length 0
theorem Nx(f:En w P aE nE env)(C:RdF w P a n cap i bs)(q):
  Calls prog 98 #[.slice aE nE cE,hI q,hG P] w λe J=>e=.returned (eN (ofM env q (nv bs i)))/\RdF J P a n cap (ni bs i) bs/\Kept P (P+1) w J:=by
 have bK:=fK C.ys i;have bD:V _:=jp w P a n cap i bs C;have aP:V _:=f;have ad:V (ofM env q (nv bs i)=ofG env q (nv bs i) (nE-0) 0):=by show ofG _ _ _ _ _=_;rw[f.len];rfl
 have hn:nE<=100:=f.le;generalize ofM env q (nv bs i)=r at ad⊢;generalize nv bs i=x at bD ad bK;clear f C;go_enter func98,ntmps98;go_wp2_with fail;refine yai bD.o ?_;rintro e af ⟨rfl,(aJ:V _),(bN:V _),cc⟩;clear cc bD;have aK:V _:=aP.o.keep bN.o;clear aP;go_wp2_with fail;go_loopw [8] (λt W=>∃k:Nat,k<=nE/\t=hI k/\V (r=ofG env q x (nE-k) k)/\V (Kept 0 0 af W)) (λt _=>nE-(intOf t).toNat)
 case atStart=>exact⟨0,Nat.zero_le _,rfl,ad.o,hQ⟩
 case round=>
  obtain⟨k,O,rfl,ay,aH⟩:=hrel;by_cases aF:k<nE
  ·have az:(k+x)%nE<nE:=Nat.mod_lt _ xaa;obtain⟨g,ag,ak,a5,bh,aU⟩:=(aK.o.keep0 aH.o).at_ _ az;have s:((k:Int)+x)%(nE:Int)=(((k+x)%nE:Nat):Int):=by rw[Int.natCast_emod,Int.natCast_add]
   have HR:V (r=if (env.getD ((k+x)%nE) ([],0)).2=q then (env.getD ((k+x)%nE) ([],0)).1 else ofG env q x (nE-(k+1)) (k+1)):=by
    have e:nE-k=(nE-(k+1))+1:=xaa;have:=ay.o;rw[e,ofG,aK.o.len]at this;exact this
   clear ay;subst ag;generalize env.getD ((k+x)%nE) ([],0)=z at bh aU HR;generalize (k+x)%nE=j at az bh aU HR s;obtain⟨aZ,be⟩:=z;simp only at bh aU HR;have G:V (Kept 0 0 af (wr.alloc (.cells #[eN aZ,hI be] 95))):=aH.o.trans (ez 0 0 _ _);by_cases bp:be=q
   ·subst bp;have p:V (r=aZ):=HR.o.trans (hK rfl);clear HR ad;go_wp2;go_ret;exact⟨hX p.o,aJ.o.keep0 G.o,bN.o.trans (fw G.o)⟩
   have p:V _:=HR.o.trans (hJ bp);clear HR ad;go_wp2;go_roundw
   case rel=>exact⟨k+1,by omega,by go_num,p.o,G⟩
   case measure=>simp[intOf];omega
  have bY:k=nE:=xaa;have p:V (r=[]):=by have:=ay.o;rw[bY,Nat.sub_self,ofG]at this;exact this
  clear ay ad bY;go_wp2;go_ret;exact⟨hX p.o,aJ.o.keep0 aH.o,bN.o.trans (fw aH.o)⟩
structure Xd where
 w:World
 P:Nat
 n:Nat
 cap:Nat
 nE:Nat
 cE:Nat
 a:Option Addr
 aE:Option Addr
structure Sd (X:Xd)(env:List (List UInt8×Int))(bs:List Int)(i:Nat)(W:World):Prop where
 rd:RdF W X.P X.a X.n X.cap i bs
 en:En W X.P X.aE X.nE env
 kp:Kept X.P (X.P+1) X.w W
variable {X:Xd}{W W':World}{env:List (List UInt8×Int)}{bs:List Int}{i j:Nat}
theorem Sd.go(h:Sd X env bs i W)(r:RdF W' X.P X.a X.n X.cap j bs)(k:Kept X.P (X.P+1) W W'):Sd X env bs j W':=⟨r,h.en.keep k,h.kp.trans k⟩
theorem Sd.keep0(h:Sd X env bs i W)(k:Kept 0 0 W W'):Sd X env bs i W':=h.go (h.rd.keep0 k) (fw k)
def Tx (X:Xd)(env:List (List UInt8×Int))(bs:List Int)(j:Nat)(v:Value)(e:Ending)(w':World):Prop:=e=.returned v/\Sd X env bs j w'
theorem nxS(h:Sd X env bs i W):Calls prog 13 #[hG X.P] W (Tx X env bs (ni bs i) (hI (nv bs i:Int))):=
 (jp W X.P X.a X.n X.cap i bs h.rd).mono λ_ _ ⟨e,r,k,_⟩=>⟨e,h.go r k⟩
theorem lfS(h:Sd X env bs i W):Calls prog 33 #[hG X.P] W (Tx X env bs i (hI ((bs.length:Int)-i))):=
 (B4 h.rd).mono λ_ _ ⟨e,k⟩=>⟨e,h.keep0 k⟩
theorem olS(q)(h:Sd X env bs i W):Calls prog 98 #[.slice X.aE X.nE X.cE,hI q,hG X.P] W (Tx X env bs (ni bs i) (eN (ofM env q (nv bs i)))):=
 (Nx h.en h.rd q).mono λ_ _ ⟨e,r,k⟩=>⟨e,h.go r k⟩
theorem nbS(h:Sd X env bs i W):Calls prog 130 #[hG X.P] W (Tx X env bs (ni bs i) (eN (l3n (nv bs i)))):=
 (A3 W X.P X.a X.n X.cap i bs h.rd).mono λ_ _ ⟨e,r,k,_⟩=>⟨e,h.go r k⟩
theorem dcS(aq:q<=1000)(h:Sd X env bs i W):Calls prog 57 #[hI q] W (Tx X env bs i (eN (gF q))):=
 (zj q q yad xaa W).mono λ_ _ ⟨e,a9⟩=>⟨e,a9 ▸ h⟩
theorem sz2{x y:ByteArray}{G:Prop}(h:x.size+y.size<=1000000)(k:¬9223372036854775807<x.size+y.size->x.size<=1000000->G):G:=k xaa xaa
theorem Ny(b2:∀x∈env,x.1.length<=5)(q c):(ofM env q c).length<=5:=by
 have h:∀m k,(ofG env q c m k).length<=5:=by
  intro m;induction m with
  |zero=>exact λ_=>by simp[ofG]
  |succ m ag=>
   intro k;rw[ofG];split
   ·rw[yah];cases e:env[(k+c)%env.length]? with
    |none=>simp
    |some x=>exact b2 x (List.mem_of_getElem? e)
   exact ag _
 exact h _ _
theorem Nz{x}(h:x<256):(l3n x).length<=300:=by
 have:=jT x;have:=jT (x/10%6);unfold l3n;(repeat' split)<;>simp<;>omega
def Dr (env:List (List UInt8×Int))(bs:List Int)(i f:Nat)(xs:Xd->Array Value)(m:Nat)(s:ByteArray)(j:Nat):Prop:=s.size<=m/\∀X W,V (Sd X env bs i W)->Calls prog f (xs X) W (Tx X env bs j (.string s))
theorem gu{f:Nat}{xs s}(bp:s.size<=m)(az:m<=1000000)(h:s.size<=1000000->∀X W,V (Sd X env bs i W)->Calls prog f (xs X) W (Tx X env bs j (.string s))):Dr env bs i f xs m s j:=⟨bp,h (yan bp az)⟩
theorem olD(b2:∀x∈env,x.1.length<=5)(q i):∃s j,Dr env bs i 98 (λX=>#[.slice X.aE X.nE X.cE,hI q,hG X.P]) 5 s j:=⟨_,_,by rw[gl];exact Ny b2 q (nv bs i),λ_ _ h=>olS q h.o⟩
theorem nbD(hb:∀i,nv bs i<256)(i):∃s j,Dr env bs i 130 (λX=>#[hG X.P]) 300 s j:=⟨_,_,by rw[gl];exact Nz (hb i),λ_ _ h=>nbS h.o⟩
theorem dcD{q}(aj:0<=q)(h3:q<=3):∃s,∀i,Dr env bs i 57 (λ_=>#[hI q]) 5 s i:=by
 obtain⟨q,rfl⟩:=Int.eq_ofNat_of_zero_le aj;exact⟨_,λ_=>⟨by rw[gl];have:=jT q;omega,λ_ _ h=>dcS xaa h.o⟩⟩
theorem uH(s:ByteArray):s.toList=[]/\s.toList.isEmpty=true\/¬s.toList=[]/\s.toList.isEmpty=false:=by
 by_cases h:s.toList=[]
 ·exact .inl ⟨h,hX h⟩
 exact .inr ⟨h,by simp[h]⟩
theorem LO(b2:∀x∈env,x.1.length<=5)(hb:∀i,nv bs i<256)(q)(aq:1<=q/\q<=3)(i):∃s j,Dr env bs i 97 (λX=>#[.slice X.aE X.nE X.cE,hI q,hG X.P]) 1000 s j:=by
 obtain⟨s0,b4,A⟩:=olD (bs:=bs) b2 q i;obtain⟨ax,bi,I⟩:=nbD (env:=env) hb (ni bs b4);obtain⟨aN,D⟩:=dcD (env:=env) (bs:=bs) (by omega:0<=q) aq.2;have aj:=A.1;have B:=I.1;have R:=(D 0).1;rcases uH s0 with⟨bj,a6⟩|⟨bj,a6⟩<;>rcases (by omega:q=1\/¬q=1) with rfl|bK<;>rcases (by omega:(nv bs b4:Int)%4=0\/0<(nv bs b4:Int)%4) with aQ|aQ
 ·exact xbs
 ·exact xbs
 ·exact xbh
 ·exact xbh
 ·exact xbs
 ·exact xdh
 ·exact xbh
 exact xdh
