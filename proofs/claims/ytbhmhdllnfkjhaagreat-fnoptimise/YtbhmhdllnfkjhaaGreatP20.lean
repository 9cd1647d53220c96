import Derived.Test.YtbhmhdllnfkjhaaGreatP19
import Derived.Test.YtbhmhdllnfkjhaaGreatP13
import Derived.Test.YtbhmhdllnfkjhaaGreatP09
namespace Go.Proofs.Z
open Tryz
set_option maxRecDepth 1000000
set_option maxHeartbeats 0
section
open Go.RowKit Flt
attribute[local go_sem] eG eE eD
variable{w I:World}{g n k:Nat}{a:Option Addr}{xs:List Nat}{ar cx:Nat->Nat}{xss:List (List Nat)}
structure FO(w:World)(g n:Nat)(xs:List Nat):Prop where
 len:xs.length=n
 bnd:∀x∈xs,x<18446744073709551616
 lt:g<w.heap.size
 at_:∀k,k<n->w.cell? ⟨g,k,none⟩=some (.float .f64 (xs.getD k 0))
 free:∀o,w.frozen? ⟨g,o,none⟩=false
theorem FO.keep{l h}(f:FO w g n xs)(k:Kept l h w I)(G:g<l\/h<=g\/h<=l):FO I g n xs:=
 ⟨f.len,f.bnd,yak f.lt k.size,λj hj=>by rw[k.cell (p:=⟨g,j,none⟩) f.lt (by show ¬(l<=g/\g<h);omega)];exact f.at_ j hj,λo=>by rw[k.frozen (p:=⟨g,o,none⟩) f.lt (by show ¬(l<=g/\g<h);omega)];exact f.free o⟩
theorem FO.fs(f:FO w g n xs):FS w 0 w.heap.size (some ⟨g,0,none⟩) n xs:=
 ⟨f.len,f.bnd,.inr ⟨g,0,rfl,yae,f.lt,f.lt,λk N=>by rw[Nat.zero_add];exact f.at_ k N⟩⟩
structure SS(w:World)(a:Option Addr)(n:Nat)(xss:List (List Nat)):Prop where
 len:xss.length=n
 at_:n=0\/∃g off,a=some ⟨g,off,none⟩/\g<w.heap.size/\∀k,k<n->∃b c,w.cell? ⟨g,off+k,none⟩=some (.slice b (xss.getD k []).length c)/\(xss.getD k []).length<=c/\FS w 0 w.heap.size b (xss.getD k []).length (xss.getD k [])
theorem FS.keep0(f:FS w 0 w.heap.size a n xs)(k:Kept 0 0 w I):FS I 0 I.heap.size a n xs:=
 (f.keep k yaa).mono yad k.size
theorem SS.keep(f:SS w a n xss)(k:Kept 0 0 w I):SS I a n xss:=
 ⟨f.len,by
  rcases f.at_ with ae|⟨g,off,e,B,J⟩
  ·exact .inl ae
  ·refine .inr ⟨g,off,e,yak B k.size,λj hj=>?_⟩
   obtain⟨b,c,bA,ap,bM⟩:=J j hj
   exact⟨b,c,iF k B bA,ap,bM.keep0 k⟩⟩
structure SP(w:World)(g n k:Nat)(gf cf:Nat->Nat)(xss:List (List Nat)):Prop where
 lt:g<w.heap.size
 free:∀o,w.frozen? ⟨g,o,none⟩=false
 cell:∀j,j<k->w.cell? ⟨g,j,none⟩=some (.slice (some ⟨gf j,0,none⟩) (xss.getD j []).length (cf j))
 rest:∀j,j<n->∃u,w.cell? ⟨g,j,none⟩=some u
 cap:∀j,j<k->(xss.getD j []).length<=cf j
 own:∀j,j<k->FO w (gf j) (xss.getD j []).length (xss.getD j [])
 up:∀j,j<k->g<gf j
 inc:∀i j,i<j->j<k->gf i<gf j
theorem SP.keep(f:SP w g n k ar cx xss)(q:Kept 0 0 w I):SP I g n k ar cx xss:=
 ⟨yak f.lt q.size,λo=>by rw[q.frozen (p:=⟨g,o,none⟩) f.lt xaa];exact f.free o,λj hj=>iF q f.lt (f.cell j hj),λj hj=>(f.rest j hj).imp λ_ h=>iF q f.lt h,f.cap,λj hj=>(f.own j hj).keep q yaa,f.up,f.inc⟩
def upd(f:Nat->Nat)(k x:Nat):Nat->Nat:=λj=>if j=k then x else f j
theorem mZ(f k x):upd f k x k=x:=hG rfl
theorem kG{f x j}(h:j≠k):upd f k x j=f j:=hF h
theorem SP.step(f:SP w g n k ar cx xss)(N:k<n)(q:Kept 0 0 w I){G c}
  (al:FO I G (xss.getD k []).length (xss.getD k [])) (bv:w.heap.size<=G) (ad:(xss.getD k []).length<=c):
  SP (I.setCell ⟨g,k,none⟩ (hC G (xss.getD k []).length c)) g n (k+1) (upd ar k G) (upd cx k c) xss:=by
 have p:=f.keep q;have ah:=f.lt;have F:∀v,Kept g (g+1) I (I.setCell ⟨g,k,none⟩ v):=λv=>eP I ⟨g,k,none⟩ v yac;obtain⟨u,aH⟩:=p.rest k N;refine⟨by simpa using p.lt,λo=>by simp[p.free o],λj hj=>?_,λj hj=>?_,λj hj=>?_,λj hj=>?_,λj hj=>?_,λi j f5 hj=>?_⟩
 ·by_cases e:j=k
  ·subst e;rw[mZ,mZ];exact fD _ _ _ _ _ aH
  rw[kG e,kG e,eM _ _ _ _ _ _ (.inr (Ne.symm e))];exact p.cell j xaa
 ·by_cases e:j=k
  ·subst e;exact⟨_,fD _ _ _ _ _ aH⟩
  rw[eM _ _ _ _ _ _ (.inr (Ne.symm e))];exact p.rest j hj
 ·by_cases e:j=k
  ·subst e;rw[mZ];exact ad
  rw[kG e];exact f.cap j xaa
 ·by_cases e:j=k
  ·subst e;rw[mZ];exact al.keep (F _) xaa
  rw[kG e];exact(p.own j xaa).keep (F _) (hM (f.up j xaa))
 ·by_cases e:j=k
  ·subst e;rw[mZ];omega
  rw[kG e];exact f.up j xaa
 by_cases e:j=k
 ·subst e;rw[mZ,kG xaa];have:=(f.own i xaa).lt;omega
 rw[kG e,kG xaa];exact f.inc i j f5 xaa
theorem SP.ss(f:SP w g n n ar cx xss)(ab:xss.length=n):SS w (some ⟨g,0,none⟩) n xss:=
 ⟨ab,.inr ⟨g,0,rfl,f.lt,λk N=>⟨_,_,by rw[Nat.zero_add];exact f.cell k N,f.cap k N,(f.own k N).fs⟩⟩⟩
theorem zi:(prog.info? 48).map (λi=>(i.zero,i.size,i.bytes))=some (some (.slice none 0 0),1,24):=by kernel_rfl
theorem A7(n:Nat)(w)(hn:n<=1099511627776):
  (Instr.makeSlice 31 (hD n) (hD n)).run prog w=.ok (hC w.heap.size n n) (w.alloc (.cells (madeCells #[.slice none 0 0] n) 48)):=by
 obtain⟨i,hi,a6,b8,b5⟩:=info_parts zi;have:=run_make (P:=prog) w 31 48 i (.slice none 0 0) underlying31 hi a6 .i64 .i64 n n xaa xaa (hR b5) xaa;exact qch
theorem SP.made(w:World)(n ar cx xss):SP (w.alloc (.cells (madeCells #[.slice none 0 0] n) 48)) w.heap.size n 0 ar cx xss where
 lt:=by simp
 free:=λo=>by simp
 cell:=λj hj=>absurd hj (Nat.not_lt_zero _)
 rest:=λj hj=>by
  rw[yav]
  refine⟨.slice none 0 0,?_⟩
  simp only[madeCells]
  rw[Array.getElem?_map,Array.getElem?_range,hG hj]
  have aq:j%1=0:=Nat.mod_one j
  simp[aq]
 cap:=λj hj=>absurd hj (Nat.not_lt_zero _)
 own:=λj hj=>absurd hj (Nat.not_lt_zero _)
 up:=λj hj=>absurd hj (Nat.not_lt_zero _)
 inc:=λi j _ hj=>absurd hj (Nat.not_lt_zero _)
end
section
open Go.RowKit Flt
variable{x y u K O:Nat}{xs bT P az aB g t G:List Nat}{op len C:Int}
theorem vH(ak:x<18446744073709551616)(bX:y<18446744073709551616)(h:fb x=fb y):fb (Op.negFloat .f64 x)=fb (Op.negFloat .f64 y):=by
 rcases mT h with rfl|⟨a,b⟩
 ·rfl
 have au:∀z,z<18446744073709551616->(f64.read z).isNaN=true->(f64.read (Op.negFloat _ z)).isNaN=true:=λz bi hn=>by
  obtain⟨s,r,av,rfl⟩:=jl z bi
  rw[ym s av]
  rcases Nat.lt_or_ge 9218868437227405312 r with c|c
  ·rw[show f64.read _=_ from od c av];rfl
  ·have:=mE (s:=s) c
   rw[wH,hn]at this
   cases this
 exact uX (au x ak a) (au y bX b)
theorem uR(h:fb x=fb u)(h':fb y=fb O):fb (jU x y)=fb (jU u O):=by
 have e:FloatKind.f64.format.order x y=FloatKind.f64.format.order _ _:=kz h h';unfold jU;rw[e];split
 ·exact h
 exact h'
theorem xB{z j}(h:fb x=fb u)(h':fb y=fb O)(c:fb z=fb j):fb (iH x y z)=fb (iH u O j):=by
 have e:FloatKind.f64.format.order x 0=FloatKind.f64.format.order _ 0:=kz h rfl;unfold iH;rw[e];split
 ·exact h'
 exact c
theorem DE(h:fb x=fb y):fb (sB x)=fb (sB y):=by
 have e1:FloatKind.f64.format.order x x=FloatKind.f64.format.order y y:=kz h h;have e2:FloatKind.f64.format.order x 4652007308841189376=FloatKind.f64.format.order y _:=kz h rfl;have af:FloatKind.f64.format.order x 13875379345695965184=FloatKind.f64.format.order y _:=kz h rfl;unfold sB;rw[e1,e2,af,gl _ h rfl];split
 ·exact h
 rfl
theorem A8(h:fO xs bT)(ae:0<xs.length):fb (lI xs)=fb (lI bT):=by
 have ab:=iZ h
 have au:∀k,0<k->k<=xs.length->fb (lI (xs.take k))=fb (lI (bT.take k)):=λk=>by
  induction k with
  |zero=>intro c;omega
  |succ k aa=>
   intro _ N
   rcases Nat.eq_zero_or_pos k with c|c
   ·subst c
    rw[qy _ ae,qy _ xaa]
    exact gD h 0
   ·rw[po _ k c xaa,po _ k c xaa,gl _ (aa c xaa) (gD h k)]
 have:=au _ ae yad;rw[yap yad,yap xaa]at this;exact this
theorem JL{l X f}(h:jm op len C l X f=true)(bp:op=9):0<l:=by
 subst bp;simp[jm,eY,cnt,lenB]at h;omega
theorem A9{k}(F:fO P g)(hb:fO az t)(ad:fO aB G)(l:∀x∈P,x<18446744073709551616)(f:∀x∈g,x<18446744073709551616)(bp:op=9->0<P.length):
  fb (gU op C K P az aB k)=fb (gU op C K g t G k):=by
 unfold gU;by_cases c:op=1
 ·rw[hG c,hG c]
 rw[hF c,hF c];clear c;by_cases c:op=2
 ·exact xey
 rw[hF c,hF c];clear c;by_cases c:op=3
 ·exact xey
 rw[hF c,hF c];clear c;by_cases c:op=4
 ·exact xey
 rw[hF c,hF c];clear c;by_cases c:op=5
 ·exact xey
 rw[hF c,hF c];clear c;by_cases c:op=6
 ·rw[hG c,hG c];exact vH (fR l k) (fR f k) (gD F k)
 rw[hF c,hF c];clear c;by_cases c:op=7
 ·rw[hG c,hG c];exact uR (gD F k) (gD hb k)
 rw[hF c,hF c];clear c;by_cases c:op=8
 ·rw[hG c,hG c];exact xB (gD F k) (gD hb k) (gD ad k)
 rw[hF c,hF c];clear c;by_cases c:op=9
 ·rw[hG c,hG c];exact A8 F (bp c)
 rw[hF c,hF c];clear c;by_cases c:op=10
 ·rw[hG c,hG c];exact gD F 0
 rw[hF c,hF c];clear c;by_cases c:op=11
 ·rw[hG c,hG c];exact gD F _
 rw[hF c,hF c];clear c;by_cases c:op=12
 ·rw[hG c,hG c];by_cases d:k=C.toNat
  ·rw[hG d,hG d];exact gD F 0
  rw[hF d,hF d]
 rw[hF c,hF c];exact DE (gD F k)
theorem mn(F:fO P g)(hb:fO az t)(ad:fO aB G)(l:∀x∈P,x<18446744073709551616)(f:∀x∈g,x<18446744073709551616):
  fO (iN op len C K P az aB) (iN op len C K g t G):=by
 unfold iN;rw[<-iZ F,<-iZ hb,<-iZ ad];cases a9:jm op len C P.length az.length aB.length
 ·rfl
 rw[hG rfl,hG rfl];refine pi xac λk N=>?_;have av:k<len.toNat:=by simpa using N
 have e:=A9 (C:=C) (K:=K) (k:=k) F hb ad l f (λbp=>JL a9 bp);simpa[List.getD_eq_getElem?_getD,av] using e
theorem gJ{zs}(h:fO xs bT)(h':fO bT zs):fO xs zs:=Eq.trans h h'
theorem rE(h:fO xs bT):fO bT xs:=Eq.symm h
def one(xss:List (List Nat))(v:Vl)(Vs:List (List Nat)):List Nat:=
 if v.op=0 then xss.getD v.a.toNat [] else
  iN v.op v.len v.c v.k (if 0<cnt v.op then Vs.getD v.a.toNat [] else[]) (if 1<cnt v.op then Vs.getD v.b.toNat [] else[]) (if 2<cnt v.op then Vs.getD v.c.toNat [] else[])
def eX(xss:List (List Nat))(vs:List Vl):Nat->List (List Nat)
 |0=>[]
 |i+1=>eX xss vs i++[one xss (vs.getD i hI) (eX xss vs i)]
theorem iB(xss vs):∀i,(eX xss vs i).length=i
 |0=>rfl
 |i+1=>by rw[eX,yal,iB _ _ i];rfl
theorem iX(xss vs){i j}(h:j<i):(eX xss vs (i+1)).getD j []=(eX xss vs i).getD j []:=by
 rw[eX,yai,yat (by rw[iB];exact h),<-yai]
theorem jw(xss vs i):(eX xss vs (i+1)).getD i []=one xss (vs.getD i hI) (eX xss vs i):=by
 rw[eX,yai,yas (by rw[iB];exact yad),iB,Nat.sub_self];rfl
theorem vI(xss vs){i j}:∀n,j<i->(eX xss vs (i+n)).getD j []=(eX xss vs i).getD j []
 |0,_=>rfl
 |n+1,h=>by rw[<-Nat.add_assoc,iX _ _ xaa];exact vI _ _ n h
def inB(ins:List Int)(xss:List (List Nat)):Bool:=decide (xss.length=ins.length)&&(List.range ins.length).all λi=>((xss.getD i []).length:Int)==ins.getD i 0
theorem zj(h:jm op len C P.length az.length aB.length=true):(iN op len C K P az aB).length=len.toNat:=by
 unfold iN;rw[hG h];simp
theorem m4{ins vs xss}(hi:inB ins xss=true):∀i,(List.range i).all (okV ins vs)=true->∀j,j<i->(((eX xss vs i).getD j []).length:Int)=(vs.getD j hI).len
 |0,_,j,hj=>by omega
 |i+1,h,j,hj=>by
  have av:(List.range i).all (okV ins vs)=true:=by rw[List.range_succ,List.all_append]at h;rw[Bool.and_eq_true]at h;exact h.1
  have aa:=m4 hi i av
  by_cases e:j<i
  ·rw[iX _ _ e];exact aa j e
  ·have:j=i:=xaa
   subst this
   rw[jw]
   have al:=List.all_eq_true.1 h j (List.mem_range.2 yaf)
   have b9:=ir al
   unfold okV at al
   generalize vs.getD j _=v at al b9⊢
   rw[Bool.and_eq_true,Bool.and_eq_true]at al
   obtain⟨⟨B,J⟩,h3⟩:=al
   unfold one
   by_cases ae:v.op=0
   ·rw[hG ae]at h3⊢
    rw[Bool.and_eq_true]at h3
    have F:=of_decide_eq_true h3.1
    unfold inB at hi
    rw[Bool.and_eq_true]at hi
    have ak:=List.all_eq_true.1 hi.2 v.a.toNat (List.mem_range.2 xaa)
    rw[beq_iff_eq.1 ak]
    exact(beq_iff_eq.1 h3.2).symm
   ·rw[hF ae]at h3⊢
    rw[Bool.and_eq_true]at h3
    have am:=h3.1
    have ar:=h3.2
    have ad:=f9 v.op
    have au:∀o,fJ o j=true->(((eX _ _ j).getD _ _).length:Int)=(vs.getD o.toNat _).len:=λo al=>by
     have:=of_decide_eq_true al
     exact aa _ xaa
    rw[zj]
    ·omega
    ·unfold jm
     rw[B,Bool.true_and]
     unfold eQ at am ar
     rcases (by omega:cnt v.op=0\/cnt v.op=1\/cnt v.op=2\/cnt v.op=3) with e|e|e|e
     ·rw[e]at ar⊢;exact ar
     ·rw[e]at am ar⊢
      simp only[List.take_succ_cons,List.take_zero,List.all_cons,List.all_nil,Bool.and_true,List.map_cons,List.map_nil]at am ar⊢
      rw[hG xaa,au _ am]
      exact ar
     ·rw[e]at am ar⊢
      simp only[List.take_succ_cons,List.take_zero,List.all_cons,List.all_nil,Bool.and_true,Bool.and_eq_true,List.map_cons,List.map_nil]at am ar⊢
      rw[hG xaa,hG xaa,au _ am.1,au _ am.2]
      exact ar
     ·rw[e]at am ar⊢
      simp only[List.take_succ_cons,List.take_zero,List.all_cons,List.all_nil,Bool.and_true,Bool.and_eq_true,List.map_cons,List.map_nil]at am ar⊢
      rw[hG xaa,hG xaa,hG xaa,au _ am.1,au _ am.2.1,au _ am.2.2]
      exact ar
end
section
open Go.RowKit Flt
attribute[local go_sem] eG eE eD
variable{w I:World}{x base n K:Nat}{v:Value}{xs P az aB:List Nat}
theorem DF(w lo hi a b n m bd cb ins xss)(f:IS w lo hi a n ins)(g:SS w b m xss)(hn:n<=1099511627776):
  Calls prog 29 #[.slice a n bd,.slice b m cb] w λe I=>e=.returned (.bool (inB ins xss))/\Drawn w I:=by
 have aI:V _:=f;have aX:V _:=g;have HL:V (ins.length=n/\xss.length=m):=⟨f.len,g.len⟩
 clear f g;by_cases am:m=n
 ·subst am;go_enter func29,ntmps29;go_wp2_with fail;go_loop [14] (λi=>∃k:Nat,k<=m/\i=hD k/\V ((List.range k).all (λi=>((xss.getD i []).length:Int)==ins.getD i 0)=true)) (λi=>m-(intOf i).toNat)
  case atStart=>exact⟨0,yae,rfl,rfl⟩
  case round=>
   obtain⟨k,N,rfl,aU⟩:=hrel;by_cases aC:k<m
   ·rcases aI.o.at_ with bC|⟨bw,bh,b4,aN,a2,bk,bq⟩
    ·omega
    rcases aX.o.at_ with bC|⟨aY,aP,ch,aM,aQ⟩
    ·omega
    have c1:=bq k aC;obtain⟨ax,J,c2,_,_⟩:=aQ k aC;subst b4 ch;clear aN a2 bk bq aM aQ;cases ak:(((xss.getD k []).length:Int)==ins.getD k 0)
    ·have U:V (inB ins xss=false):=by
      show inB ins xss=false;unfold inB;rw[HL.o.1,mb (p:=λi=>((xss.getD i []).length:Int)==ins.getD i 0) aC ak,Bool.and_false]
     have ah:(((xss.getD k []).length:Int) !=ins.getD k 0)=true:=by rw[bne,ak];rfl
     generalize (xss.getD k []).length=y at c2 ah;generalize ins.getD k 0=x at c1 ah;clear ak aU;go_wp2;go_ret;exact⟨hS U.o,Drawn.refl _⟩
    have U:V _:=kZ (p:=λi=>((xss.getD i []).length:Int)==ins.getD i 0) aU.o ak;have ah:(((xss.getD k []).length:Int) !=ins.getD k 0)=false:=by rw[bne,ak];rfl
    generalize (xss.getD k []).length=y at c2 ah;generalize ins.getD k 0=x at c1 ah;exact xhe
   have U:V (inB ins xss=true):=by
    exact xgo
   clear aU;go_wp2;go_ret;exact⟨hS U.o,Drawn.refl _⟩
 have e:inB ins xss=false:=by
  exact xjm
 rw[e];have t:((m:Int) !=(n:Int))=true:=by simp;omega
 go_enter func29,ntmps29;go_wp2;go_ret;exact⟨rfl,Drawn.refl _⟩
theorem FO.of_own{W}(h:W.ownsRow base 50 1 v n (xs.map (Value.float .f64)))(hn:0<n)(ab:xs.length=n)(hb:∀x∈xs,x<18446744073709551616):
  ∃g cap,v=hC g n cap/\base<=g/\n<=cap/\FO W g n xs:=by
 rcases h.2 with⟨_,c⟩|⟨g,cap,H,rfl,O,ax,Z,_,cj,bG⟩
 ·omega
 have aR:g<W.heap.size:=by
  exact xcr
 refine⟨g,_,rfl,O,Z,ab,hb,aR,λj hj=>?_,λo=>frozen_of_row W g o _ _ ax⟩;rw[cell_of_row W g _ _ _ _ ax,<-Array.getElem?_toList];have:(H.toList.take (n*1))[j]? =(xs.map (Value.float .f64))[j]?:=by rw[bG]
 exact xer
theorem B7{g off}(ak:xs.length=n)(ad:∀k,k<n->w.cell? ⟨g,off+k,none⟩=some (.float .f64 (xs.getD k 0))):
  ∀j u,(xs.map (Value.float .f64))[j]? =some u->w.cell? ((⟨g,off,none⟩:Addr).add j)=some u:=λj u aH=>by
 have hj:j<n:=by
  rcases Nat.lt_or_ge j n with c|c
  ·exact c
  ·rw[List.getElem?_eq_none yag]at aH;cases aH
 have B:=ad j hj
 have e:(⟨g,off,none⟩:Addr).add j=⟨g,off+j,none⟩:=by
  unfold Addr.add;split
  ·rename_i ae;rw[ae];rfl
  ·rfl
 rw[e,B]
 rw[List.getElem?_map,yam (by omega:j<xs.length)]at aH
 simp only[Option.map_some]at aH
 rw[<-aH,yai,yam (by omega:j<xs.length)];rfl
theorem i9{Q}(h:w.grownBy I Q)(av:∀k,Q=some k->base<=k){H}(k:Kept 0 0 H w)(hb:H.heap.size<=base):Kept 0 0 H I:=
 ⟨h.os.trans k.os,h.tape.trans k.tape,h.output.trans k.output,yao k.size h.size,λi hi _=>by
  rw[h.block i (yak hi k.size) (λc=>hM (av i c.symm))]
  exact k.block i hi xaa⟩
theorem Pf(w g off n c xs)(hn:1<=n)(ce:n<=1000000)(aR:g<w.heap.size)(ak:xs.length=n)(aC:∀x∈xs,x<18446744073709551616)(ad:∀k,k<n->w.cell? ⟨g,off+k,none⟩=some (.float .f64 (xs.getD k 0))):
  Calls prog 31 #[.slice (some ⟨g,off,none⟩) n c] w λe I=>∃G cap,e=.returned (hC G n cap)/\n<=cap/\FO I G n xs/\w.heap.size<=G/\Kept 0 0 w I:=by
 obtain⟨b3,hi,a6,b8,b5⟩:=info_parts yq
 have i:(binOp .eql 48 (.slice (some ⟨g,off,none⟩) n c) (.slice none 0 0)).run prog w=.ok (.bool false) w:=by
  simp only[binOp];simp[run_equal_slice_nil w 48 50 (some ⟨g,off,none⟩) n c underlying48]
 have bx:=ez 0 0 w (.cells #[] 50);have bu:V _:=B7 (w:=w.alloc (.cells #[] 50)) (g:=g) (off:=off) ak (λk N=>iF bx aR (ad k N));have HO:V _:=World.ownsRow_made (base:=w.heap.size) (e:=50) (size:=1) w #[] 0 yad (by unfold maxLen;omega) rfl;have f:V _:=bx;have bn:V (xs.length=n):=ak;have h:V _:=aC;clear ad ak aC bx;go_enter func31,ntmps31;go_wp2_with (first|(at_builtin;refine wpList_append_own _ rfl _ _ 48 rfl w.heap.size 50 b3 (.float .f64 0) 1 8 underlying48 hi a6 b8 b5 rfl xab _ _ _ rfl HO.o ⟨g,off,none⟩ n c (xs.map (Value.float .f64)) rfl ?c0 bu.o ?c2 ?c3 ?c4 ?c5 ?_))
 case c0=>exact bn.o
 case c2=>intro u aH;rfl
 case c3=>unfold maxLen;omega
 case c4=>omega
 intro v' bg bQ a0 _;obtain⟨G,cap,rfl,O,ax,Z⟩:=FO.of_own bQ xaa bn.o h.o;have U:V _:=i9 (base:=w.heap.size) a0 (λk N=>by have:w.heap.size=k:=(by simpa[Value.ownBlock] using N);omega) f.o yad;clear bQ a0;go_wp2;go_ret;exact⟨G,cap,rfl,ax,Z,O,U.o⟩
def Cl(w:World)(v:Value)(xs:List Nat):Prop:=∃b n c zs,v=.slice b n c/\n<=c/\FS w 0 w.heap.size b n zs/\fO zs xs
theorem Cl.keep(h:Cl w v xs)(k:Kept 0 0 w I):Cl I v xs:=by
 obtain⟨b,n,c,zs,B,J,h3,a0⟩:=h;exact⟨b,n,c,_,B,J,h3.keep0 k,a0⟩
theorem Cl.nil(w):Cl w (.slice none 0 0) []:=⟨none,0,0,[],rfl,yad,⟨rfl,by simp,.inl rfl⟩,rfl⟩
def Cn(w:World)(lo:Nat)(v:Value)(xs:List Nat):Prop:=∃b n c zs,v=.slice b n c/\n<=c/\FS w lo w.heap.size b n zs/\fO zs xs
theorem Cn.cl{lo}(h:Cn w lo v xs):Cl w v xs:=by
 obtain⟨b,n,c,zs,B,J,h3,a0⟩:=h;exact⟨b,n,c,_,B,J,h3.mono yae yad,a0⟩
theorem zm(w)(v:Vl)(aw:v.k<18446744073709551616)(x y z P az aB)(F:Cl w x P)(hb:Cl w y az)(ad:Cl w z aB)(l:∀q∈P,q<18446744073709551616):
  Calls prog 63 #[v.agg,x,y,z] w λe I=>∃u,e=.returned u/\Cn I w.heap.size u (iN v.op v.len v.c v.k P az aB)/\Kept 0 0 w I:=by
 obtain⟨a,f,bd,g,rfl,a1,Y,a3⟩:=F;obtain⟨b,aj,cb,B,rfl,O,ax,Z⟩:=hb;obtain⟨c,am,bK,h,rfl,c1,c2,c3⟩:=ad;refine(yL w v.op v.len v.a v.b v.c v.k aw Y ax c2 a1).mono ?_;rintro e I ⟨ag,n,cap,zs,rfl,al,ar,N,hn⟩;exact⟨_,rfl,⟨ag,n,cap,zs,rfl,hn,al.fs,gJ ar (mn a3 Z c3 Y.lt l)⟩,N⟩
theorem oM(w)(v:Vl)(aw:v.k<18446744073709551616)(x y z P az aB)(F:Cl w x P)(hb:Cl w y az)(ad:Cl w z aB)(l:∀q∈P,q<18446744073709551616):
  Calls prog 50 #[v.agg,x,y,z] w λe I=>∃u,e=.returned u/\Cn I w.heap.size u (iN v.op v.len v.c v.k P az aB)/\Kept 0 0 w I:=by
 obtain⟨a,f,bd,g,rfl,a1,Y,a3⟩:=F;obtain⟨b,aj,cb,B,rfl,O,ax,Z⟩:=hb;obtain⟨c,am,bK,h,rfl,c1,c2,c3⟩:=ad;refine(yM w v.op v.len v.a v.b v.c v.k aw Y ax c2 a1).mono ?_;rintro e I ⟨ag,n,cap,zs,rfl,al,ar,N,hn⟩;exact⟨_,rfl,⟨ag,n,cap,zs,rfl,hn,al,gJ ar (mn a3 Z c3 Y.lt l)⟩,N⟩
theorem lq(op x y):cop op x y<18446744073709551616:=by
 unfold cop;cases h:floatBits op .f64 x y with
 |none=>decide
 |some r=>
  have:=floatBits_wf h;simpa[Lit.wf] using this
theorem JM(ak:x<18446744073709551616):sB x<18446744073709551616:=by
 unfold sB;split
 ·exact ak
 split
 ·decide
 split
 ·decide
 exact lq _ _ _
theorem B8:∀(xs:List Nat) (x:Nat),x<18446744073709551616->xs.foldl (cop .add) x<18446744073709551616
 |[],_,h=>h
 |y::bT,x,_=>B8 bT (cop .add x y) (lq _ _ _)
theorem JN(h:∀x∈xs,x<18446744073709551616):lI xs<18446744073709551616:=by
 cases xs with
 |nil=>decide
 |cons x r=>exact B8 r x (h x xac)
theorem mo{p}[Decidable p]{y}(ak:x<18446744073709551616)(bX:y<18446744073709551616):(if p then x else y)<18446744073709551616:=by
 split
 ·exact ak
 exact bX
theorem JO{op C}(aw:K<18446744073709551616)(F:∀x∈P,x<18446744073709551616)(hb:∀x∈az,x<18446744073709551616)(ad:∀x∈aB,x<18446744073709551616)(k):gU op C K P az aB k<18446744073709551616:=by
 have bV:=fR F;have bH:=fR hb;have c0:=fR ad;unfold gU jU iH;exact mo aw (mo (lq _ _ _) (mo (lq _ _ _) (mo (lq _ _ _) (mo (lq _ _ _) (mo (wL (bV _)) (mo (mo (bV _) (bH _)) (mo (mo (bH _) (c0 _)) (mo (JN F) (mo (bV _) (mo (bV _) (mo (mo (bV _) xab) (JM (bV _)))))))))))))
theorem xC{op len C}(aw:K<18446744073709551616)(F:∀x∈P,x<18446744073709551616)(hb:∀x∈az,x<18446744073709551616)(ad:∀x∈aB,x<18446744073709551616):∀x∈iN op len C K P az aB,x<18446744073709551616:=by
 unfold iN;split
 ·intro x ak;obtain⟨k,_,rfl⟩:=List.mem_map.1 ak;exact JO aw F hb ad k
 intro x ak;cases ak
def iT(xss:List (List Nat)):Prop:=∀k,∀x∈xss.getD k [],x<18446744073709551616
theorem km{p}[Decidable p](h:∀x∈xs,x<18446744073709551616):∀x∈(if p then xs else[]),x<18446744073709551616:=by
 split
 ·exact h
 intro x ak;cases ak
theorem M9{xss v ai}(ak:iT xss)(aD:v.k<18446744073709551616)(av:iT ai):∀x∈one xss v ai,x<18446744073709551616:=by
 unfold one;split
 ·exact ak _
 exact xC aD (km (av _)) (km (av _)) (km (av _))
theorem j9{xss vs}(ak:iT xss)(aD:∀k,(vs.getD k hI).k<18446744073709551616):∀i,iT (eX xss vs i)
 |0=>λk x h=>by simp[eX]at h
 |i+1=>λk x h=>by
  have aa:=j9 ak aD i
  rcases Nat.lt_trichotomy k i with c|c|c
  ·rw[iX _ _ c]at h;exact aa k x h
  ·subst c;rw[jw]at h;exact M9 ak (aD _) aa x h
  ·rw[yai,List.getElem?_eq_none (by rw[iB];omega)]at h;cases h
end
section
open Go.RowKit Flt
attribute[local go_sem] eG eE
def xD(op:BinOp)(v:Nat):Nat->Nat
 |0=>v
 |k+1=>cop op (xD op v k) 4611686018427387904
def frV(b:Nat):Nat:=cop .quo (floatOfInt .f64 ((b%4503599627370496:Nat):Int)) 4841369599423283200
def sgV(b v:Nat):Nat:=if 9223372036854775808<=b then Op.negFloat .f64 v else v
def ffG(e Vaa:Nat):Nat:=xD .quo (xD .mul Vaa (e-1023)) (1023-e)
def ffV(b:Nat):Nat:=
 if b/4503599627370496%2048=2047 then if (f64.order (frV b) 0 !=some .eq)=true then cop .quo 0 0 else sgV b (cop .quo 4607182418800017408 0)
 else sgV b (if b/4503599627370496%2048=0 then ffG 1 (frV b)else ffG (b/4503599627370496%2048) (cop .add 4607182418800017408 (frV b)))
theorem B9{op v}(h:v<18446744073709551616):∀k,xD op v k<18446744073709551616
 |0=>h
 |_+1=>lq _ _ _
def FwO(w:World)(v:Nat)(e:Ending)(w':World):Prop:=∃y,e=.returned (.float .f64 y)/\fb y=fb v/\y<18446744073709551616/\∃m,w'=w.drewN m
theorem vJ(b:Nat)(w)(hb:b<18446744073709551616):Calls prog 124 #[.int .u64 (b:Int)] w (FwO w (ffV b)):=by
 have f1:=@kK prog;have f2:=@mg prog;have f3:=@oq prog;have f:=qQ;have am:(b:Int)/4503599627370496%2048=((b/4503599627370496%2048:Nat):Int):=xaa;have ht:(b:Int)%4503599627370496=((b%4503599627370496:Nat):Int):=xaa;have al:∀W,FloatKind.f64.format.order (fop .quo (floatOfInt .f64 ((b%4503599627370496:Nat):Int)) 4841369599423283200 W) 0=f64.order (frV b) 0:=λW=>kz (gu _ _ _ _) rfl;have HR:V (∀W,fb (fop .quo (floatOfInt .f64 ((b%4503599627370496:Nat):Int)) 4841369599423283200 W)=fb (frV b)):=λW=>gu _ _ _ _;obtain⟨Vaa,av⟩:∃Vaa,Vaa=ffV b:=⟨_,rfl⟩
 have H:frV b<18446744073709551616:=lq _ _ _;rw[<-av];unfold ffV at av;generalize frV b=r at al HR av H;generalize b%4503599627370496=t at ht al HR;have i:b/4503599627370496%2048<2048:=Nat.mod_lt _ xaa;generalize b/4503599627370496%2048=q at am av i
 have au:V (∀{y v:Nat}{W:World},fb y=fb v->y<18446744073709551616->v<18446744073709551616->(∃m,W=w.drewN m)->Vaa=sgV b v->((9223372036854775808<=b->FwO w Vaa (.returned (.float .f64 (Op.negFloat .f64 y))) W)/\(¬9223372036854775808<=b->FwO w Vaa (.returned (.float .f64 y)) W))):=λB J h3 a0 bz=>by
  subst bz
  exact⟨λc=>⟨_,rfl,by rw[sgV,hG c];exact vH J h3 B,xu J,a0⟩,λc=>⟨_,rfl,by rw[sgV,hF c];exact B,J,a0⟩⟩
 by_cases aS:q=2047
 ·subst aS;replace am:_=(2047:Int):=am;rw[hG rfl]at av;cases ae:(f64.order r 0 !=some .eq)
  ·rw[ae,hF xac]at av;have B:FloatKind.f64.format.order (fop .quo (floatOfInt .f64 (t:Int)) 4841369599423283200 w) 0=some .eq:=by rw[al];simpa using ae
   have bL:V _:=av;clear al ae av;by_cases ar:9223372036854775808<=b
   all_goals
    first|have cg:decide (9223372036854775808<=(b:Int))=true:=decide_eq_true xaa|have cg:decide (9223372036854775808<=(b:Int))=false:=yay xaa
    go_enter func124,ntmps124
    go_wp2
    go_ret
    first|exact(au.o (gu _ _ _ _) (gN _ _ _ _) (lq _ _ _) ⟨_,rfl⟩ bL.o).1 ar|exact(au.o (gu _ _ _ _) (gN _ _ _ _) (lq _ _ _) ⟨_,rfl⟩ bL.o).2 ar
  rw[ae,hG rfl]at av;have B:(FloatKind.f64.format.order (fop .quo (floatOfInt .f64 (t:Int)) 4841369599423283200 w) 0 !=some .eq)=true:=hO al ae
  clear al ae;go_enter func124,ntmps124;go_wp2;go_ret;exact⟨_,rfl,by rw[av];exact gu _ _ _ _,gN _ _ _ _,_,rfl⟩
 rw[hF aS]at av;have R:((q:Int)==2047)=false:=yan xaa;clear al
 obtain⟨e,G,bv,Z,g,d4⟩:∃e G,G<18446744073709551616/\(1<=e/\e<2047)/\Vaa=sgV b (ffG e G)/\(q=0/\e=1/\G=r\/0<q/\e=q/\G=cop .add 4607182418800017408 r):=by
  by_cases h:q=0
  ·exact⟨1,r,H,by omega,by rw[av,hG h],.inl ⟨h,rfl,rfl⟩⟩
  exact⟨q,_,lq _ _ _,by omega,by rw[av,hF h],.inr ⟨by omega,rfl,rfl⟩⟩
 have bL:V _:=g;have aX:V _:=bv;clear av g bv aS;have bc:V (∀{op:BinOp}{y v:Nat} (W:World),fb y=fb v->fb (fop op y 4611686018427387904 W)=fb (cop op v 4611686018427387904)):=λW h=>by rw[gu,gl _ h rfl]
 have HD:V (∀W:World,fb (fop .add 4607182418800017408 (fop .quo (floatOfInt .f64 (t:Int)) 4841369599423283200 w) W)=fb (cop .add 4607182418800017408 r)):=λW=>by rw[gu,gl _ rfl (HR.o w)]
 have HE:V _:=Z;rcases d4 with⟨ae,B,J⟩|⟨ae,B,J⟩
 all_goals
  have bn:V (G=_):=J
  have bO:V (e=_):=B
  clear J B Z
  go_enter func124,ntmps124
  go_wp2_with fail
  clear am ht R ae
  have ab:=HE.o
  go_loopw [5,3] (λv x W=>∃j z:Nat,j<=e-1023/\v=.float .f64 z/\x=hD ((e:Int)-j)/\V (fb z=fb (xD .mul G j)/\z<18446744073709551616/\∃m,W=w.drewN m)) (λ_ x _=>(intOf x).toNat)
  case atStart=>exact⟨0,_,yae,rfl,by rw[bO.o];simp,by rw[bn.o];first|exact HR.o _|exact HD.o _,gN _ _ _ _,_,rfl⟩
  case round=>
   obtain⟨j,z,hj,rfl,rfl,bi⟩:=hrel
   by_cases ad:j<e-1023
   ·go_wp2
    go_roundw;exact⟨j+1,_,by omega,rfl,by go_num,bc.o _ bi.o.1,gN _ _ _ _,by obtain⟨_,_,m,rfl⟩:=bi.o;exact⟨_,World.drewN_drewN ..⟩⟩;simp[intOf];omega
   ·have b7:V (fb z=fb (xD .quo (xD .mul G (e-1023)) 0)/\z<18446744073709551616/\∃m,wr=w.drewN m):=by
     obtain rfl:j=e-1023:=xaa
     exact bi.o
    obtain⟨u,aH,l⟩:∃u:Nat,(u:Int)=e-j/\u+(1023-e)=1023:=⟨e-j,by omega,by omega⟩
    rw[<-aH]
    have b4:¬1023<(u:Int):=xaa
    clear bi hj ad aH
    go_wp2_with fail
    clear b4
    go_loopw [5,3] (λv x W=>∃j z:Nat,j<=1023-e/\v=.float .f64 z/\x=hD ((u:Int)+j)/\V (fb z=fb (xD .quo (xD .mul G (e-1023)) j)/\z<18446744073709551616/\∃m,W=w.drewN m)) (λ_ x _=>1023-(intOf x).toNat)
    case atStart=>exact⟨0,_,yae,rfl,by simp,b7⟩
    case round=>
     obtain⟨j,z,hj,rfl,rfl,bi⟩:=hrel
     by_cases ad:j<1023-e
     ·go_wp2
      go_roundw;exact⟨j+1,_,by omega,rfl,by go_num,bc.o _ bi.o.1,gN _ _ _ _,by obtain⟨_,_,m,rfl⟩:=bi.o;exact⟨_,World.drewN_drewN ..⟩⟩;simp[intOf];omega
     ·obtain rfl:j=1023-e:=xaa
      have F:((u:Int)+((1023-e:Nat):Int))=1023:=xaa
      rw[F]
      clear hj ad F
      by_cases ar:9223372036854775808<=b
      all_goals
       first|have cg:decide (9223372036854775808<=(b:Int))=true:=decide_eq_true xaa|have cg:decide (9223372036854775808<=(b:Int))=false:=yay xaa
       go_wp2
       go_ret
       have k:=au.o bi.o.1 bi.o.2.1 (B9 (B9 aX.o _) _) bi.o.2.2 bL.o
       first|exact k.1 ar|exact k.2 ar
end
section
open Go.RowKit Flt Ieee
abbrev vd(vs:List Vl)(i:Nat):Vl:=vs.getD i hI
end
section
open Go.RowKit Flt
theorem jE{P w a m}(f r c):(store a (.func f r c) m).run P w=stored P w a (.func f r c) m:=run_store P w a _ m rfl
attribute[local go_sem] eG eE eD jE
end
section
open Go.RowKit Flt
attribute[local go_sem] eG eE eD jE
variable{vs0:List Vl}{act:List Bool}{st:List Vl×List Int}
def mM(vs0:List Vl)(o:Nat)(p:Int)(st:List Vl×List Int):List Vl×List Int:=
 if st.2.getD o 0=-1 then (st.1,st.2.set o p)else (st.1++[eL 2 (vs0.getD o hI).len (st.2.getD o 0) p 0],st.2.set o (st.1.length:Nat))
def laM(vs0:List Vl)(i:Nat):Int:=(vs0.getD (vs0.getD i hI).a.toNat hI).len
def gkM(vs0:List Vl)(act:List Bool)(i k:Nat)(st:List Vl×List Int):List Vl×List Int:=
 if act.getD (fld (vs0.getD i hI) k).toNat false=true/\pJ (vs0.getD i hI) k=true then
  mM vs0 (fld (vs0.getD i hI) k).toNat (nH (i:Int) (vs0.getD i hI) (laM vs0 i) k (st.2.getD i 0) st.1.length).2 (st.1++(nH (i:Int) (vs0.getD i hI) (laM vs0 i) k (st.2.getD i 0) st.1.length).1,st.2)
 else st
def jY(vs0:List Vl)(act:List Bool)(i:Nat)(st:List Vl×List Int):Nat->List Vl×List Int
 |0=>st
 |k+1=>gkM vs0 act i k (jY vs0 act i st k)
def giM(vs0:List Vl)(act:List Bool)(i:Nat)(st:List Vl×List Int):List Vl×List Int:=
 if st.2.getD i 0=-1 then st else jY vs0 act i st (cnt (vs0.getD i hI).op)
def SzP(M:List Vl×Int):Prop:=M.1.length<=3/\0<=fd M.1/\fd M.1<=3000
theorem JP{p}[Decidable p]{a b}(F:SzP a)(hb:SzP b):SzP (if p then a else b):=by split<;>assumption
theorem zn(i v l k d aH)(ae:0<=v.len)(B:v.len<=1000)(J:0<=l)(h3:l<=1000):SzP (nH i v l k d aH):=by
 unfold nH;repeat' (apply JP)
 all_goals (unfold SzP;simp only[fd,yaq,List.length_nil];omega)
theorem JQ{i k}(h:Pre vs0 st.1):Pre vs0 (gkM vs0 act i k st).1:=by
 unfold gkM mM;split
 ·split
  ·exact h.app
  exact h.app.app
 exact h
theorem ug{vs0 act i st}(h:Pre vs0 st.1):∀k,Pre vs0 (jY vs0 act i st k).1
 |0=>h
 |k+1=>JQ (ug h k)
theorem JR{i k}:(gkM vs0 act i k st).2.length=st.2.length:=by
 unfold gkM mM;split
 ·split<;>simp
 rfl
theorem qT{vs0 act i st}:∀k,(jY vs0 act i st k).2.length=st.2.length
 |0=>rfl
 |k+1=>by rw[jY,JR,qT k]
def Na(act:List Bool)(v:Vl):Bool:=(List.range (cnt v.op)).any λk=>act.getD (fld v k).toNat false
def jA(vs0:List Vl)(x:Nat):Nat->List Bool
 |0=>(List.replicate vs0.length false).set x true
 |m+1=>(jA vs0 x m).set (x+1+m) (Na (jA vs0 x m) (vs0.getD (x+1+m) hI))
theorem oN(vs0 x):∀m,(jA vs0 x m).length=vs0.length
 |0=>by simp[jA]
 |m+1=>by rw[jA,List.length_set,oN vs0 x m]
end
section
open Go.RowKit Flt
variable{vs0 us:List Vl}{L' L i:Nat}{act:List Bool}{C C':Int}{st:List Vl×List Int}
def SzU(L:Nat)(C:Int)(us:List Vl):Prop:=us.length<=L/\0<=fd us/\fd us<=C
theorem SzU.app{a}(h:SzU L C us)(h':SzU L' C' a):SzU (L+L') (C+C') (us++a):=by
 obtain⟨a1,Y,a3⟩:=h;obtain⟨O,ax,Z⟩:=h';refine⟨by grind,?_,?_⟩<;>(rw[tK];omega)
theorem SzU.mono(h:SzU L C us)(B:L<=L')(J:C<=C'):SzU L' C' us:=⟨yao h.1 B,h.2.1,Int.le_trans h.2.2 J⟩
def LnB(vs0:List Vl):Prop:=∀j,0<=(vs0.getD j hI).len/\(vs0.getD j hI).len<=1000
theorem rF(h:∀j,j<vs0.length->1<=(vs0.getD j hI).len/\(vs0.getD j hI).len<=1000):LnB vs0:=λj=>by
 by_cases hj:j<vs0.length
 ·grind
 ·rw[yai,List.getElem?_eq_none xaa]
  show 0<=(0:Int)/\(0:Int)<=1000
  omega
theorem Gl(bJ:LnB vs0){o p}(h:SzU L C st.1):SzU (L+1) (C+1000) (mM vs0 o p st).1:=by
 unfold mM;split
 ·exact h.mono xaa xaa
 refine h.app ⟨by simp,?_,?_⟩<;>(simp only[fd];have:=bJ o;omega)
theorem Nb(bJ:LnB vs0){k}(h:SzU L C st.1):SzU (L+4) (C+4000) (gkM vs0 act i k st).1:=by
 unfold gkM;split
 ·have aK:=zn i _ (laM _ i) k (st.2.getD i 0) st.1.length (bJ i).1 (bJ i).2 (bJ _).1 (bJ _).2;have:=Gl bJ (o:=(fld (vs0.getD i hI) k).toNat) (p:=(nH (i:Int) (vs0.getD i hI) (laM vs0 i) k (st.2.getD i 0) st.1.length).2) (st:=(st.1++(nH (i:Int) (vs0.getD i hI) (laM vs0 i) k (st.2.getD i 0) st.1.length).1,st.2)) (SzU.app (L':=3) (C':=3000) h ⟨aK.1,aK.2.1,aK.2.2⟩);grind
 exact h.mono xaa xaa
theorem xE{vs0}(bJ:LnB vs0){act i L C st}(h:SzU L C st.1):∀k:Nat,SzU (L+4*k) (C+4000*(k:Int)) (jY vs0 act i st k).1
 |0=>h.mono xaa xaa
 |k+1=>(Nb bJ (xE bJ h k)).mono xaa xaa
theorem Nc(bJ:LnB vs0)(h:SzU L C st.1):SzU (L+12) (C+12000) (giM vs0 act i st).1:=by
 have:=f9 (vs0.getD i hI).op;unfold giM;split
 ·exact h.mono xaa xaa
 exact(xE bJ h _).mono xaa xaa
theorem JS(h:Pre vs0 st.1):Pre vs0 (giM vs0 act i st).1:=by
 grind[giM,ug]
theorem JT:(giM vs0 act i st).2.length=st.2.length:=by
 grind[giM,qT]
def zo(vs0:List Vl)(act:List Bool)(x:Nat)(st:List Vl×List Int)(js:List Nat):List Vl×List Int:=js.foldl (λst j=>giM vs0 act (x+1+j) st) st
theorem Ba(vs0 act x st aT j):zo vs0 act x st (aT++[j])=giM vs0 act (x+1+j) (zo vs0 act x st aT):=by simp[zo]
def Gm(m:Nat):List Nat:=(List.range m).map (λi=>m-1-i)
def xF(vs0:List Vl)(s:Nat):List Vl×List Int:=(vs0++[⟨1,1,0,0,0,4607182418800017408⟩],(List.replicate vs0.length (-1)).set s (vs0.length:Nat))
def Nd(vs0:List Vl)(x:Nat)(st:List Vl×List Int):List Vl×Int:=
 if st.2.getD x 0=-1 then (st.1++[eL 1 (vs0.getD x hI).len 0 0 0],(st.1.length:Nat))else (st.1,st.2.getD x 0)
def grM(vs0:List Vl)(s x:Nat):List Vl×Int:=
 if (jA vs0 x (s-x)).getD s false=true then Nd vs0 x (zo vs0 (jA vs0 x (s-x)) x (xF vs0 s) (Gm (s-x)))
 else (vs0++[eL 1 (vs0.getD x hI).len 0 0 0],(vs0.length:Nat))
end
section
open Go.RowKit Flt
attribute[local go_sem] eG eE eD
theorem Pg{ins vs}(bN:(List.range vs.length).all (okV ins vs)=true):∀i,i<vs.length->((vs.getD i hI).op=9\/(vs.getD i hI).op=11)->∃j:Nat,(vs.getD i hI).a=(j:Int)/\j<vs.length/\(vs.getD j hI).len=laM vs i/\1<=laM vs i/\laM vs i<=1000:=λi hi al=>by
 have h:=mI (List.all_eq_true.1 bN i (List.mem_range.2 hi)) 0 (by rcases al with c|c<;>(rw[c];decide))
 have e:fld _ 0=(vs.getD i hI).a:=rfl
 rw[e]at h
 have hj:(vs.getD i hI).a.toNat<vs.length:=xaa
 have ab:=ir (List.all_eq_true.1 bN _ (List.mem_range.2 hj))
 exact⟨_,by omega,hj,rfl,ab.1,ab.2⟩
end
section
open Go.RowKit Flt
variable{w W':World}{m1 m3 af base cap ap:Nat}{O Z Y:Option Addr}{vs vs0:List Vl}{v:Vl}{U R':Option Nat}
noncomputable abbrev P6 (n:Nat):Code:=(Tryz.f164.body.bind (pQ n)).getD .skip
def PtP(w:World)(b1:Option Addr)(m1 e1:Nat)(b3:Option Addr)(m3 e3:Nat)(vs:List Vl)(base:Nat)(R:Option Nat)(M:List Vl×Int)(bb:Bool)(e:Ending)(w':World):Prop:=
 ∃a2' cap' R',e=.returned (.tuple #[eV b1 m1 e1 a2' (vs++M.1).length cap' b3 m3 e3,.int .i64 M.2,.bool bb])/\w'.ownsRow base 60 6 (.slice a2' (vs++M.1).length cap') (vs++M.1).length (fK (vs++M.1))/\(Value.slice a2' (vs++M.1).length cap').ownBlock=R'/\StQ (λ_=>False) R w R' w'
theorem MS.finP{W e1 M}(h:MS w W O m1 e1 Z m3 af vs v base U R' Y cap)(k:Kept 0 0 W W')(aD:vs=vs0++M.1)(aJ):
  PtP w O m1 e1 Z m3 af vs0 base U M aJ (.returned (.tuple #[eV O m1 e1 Y vs.length cap Z m3 af,hD M.2,.bool aJ])) (fw W' (w.heap.size+1) (.slice O m1 e1) (.slice Y vs.length cap) (.slice Z m3 af)):=by
 exact xei
theorem xG{e1}(h:w.ownsRow base 60 6 (hC ap vs.length cap) vs.length (fK vs))(k:Kept 0 0 w W')(r aJ):
  PtP w O m1 e1 Z m3 af vs base (some ap) ([],r) aJ (.returned (.tuple #[eV O m1 e1 (some ⟨ap,0,none⟩) vs.length cap Z m3 af,hD r,.bool aJ])) W':=by
 unfold PtP;exact xig
theorem MS.finPR{W e1 M aJ}(h:MS w W O m1 e1 Z m3 af vs v base U R' Y cap)(C:∃a7,Kept 0 0 W a7/\W'=fw a7 (w.heap.size+1) (.slice O m1 e1) (.slice Y vs.length cap) (.slice Z m3 af))(aD:vs=vs0++M.1):
  PtP w O m1 e1 Z m3 af vs0 base U M aJ (.returned (.tuple #[eV O m1 e1 Y vs.length cap Z m3 af,hD M.2,.bool aJ])) W':=by
 grind[MS.finP]
def PtC(w:World)(b1 b3:Option Addr)(m1 e1 cap m3 e3 base g2 i:Nat)(vs:List Vl)(k d:Int)(M:List Vl×Int)(bb:Bool):Prop:=
 Calls prog 164 #[eV b1 m1 e1 (some ⟨g2,0,none⟩) vs.length cap b3 m3 e3,.int .i64 (i:Int),.int .i64 k,.int .i64 d] w λe w'=>PtP w b1 m1 e1 b3 m3 e3 vs base (some g2) M bb e w'
theorem MS.len1{W e1}(h:MS w W O m1 e1 Z m3 af vs v base U R' (some ⟨ap,0,none⟩) cap){j l}(hj:j<vs.length)(m:(vs.getD j hI).len=l):W.cell? ⟨ap,j*6+1,none⟩=some (hD l):=by
 obtain⟨g,c,e,_,_,_,f⟩:=mh h.g.own xaa rfl;cases e;have:=(f.at_ j hj).c1;grind
def PfK(R:World->Prop)(p0 p1 p2 p3 p4 p5 p6 p7 p8 p11 p12 p13 p14 p15 p16 p17 p18 p19 q9 q10:Value)(K:Act->World->Prop):Prop:=∀{a b c d e f g h i j k l m n o p q r s t u v w x y z A B C D E F G H I J L M N O P Q S T U Vaa W X Y Z aa ab ad ae af ag ah ai aj ak al am an ao ap aq ar au av aw ax ay az aA aB aC aD aE aF aG aH aI aJ aK aL aM aN aO aP aQ aR aS aT aU aV aW aX aY aZ a0 a1 a2 a3 a4 a5 a6 a7 a8 a9 ba bb bc bd be bf bg bh bi bj bk bl bm bn bo bp bq br bs bt bu bv bw bx bz bA bB bC bD bE bF bG bH bI bJ bK bL bM bN bO bP bQ bR bS bT bU bV bW bX bY bZ b0 b1 b2 b3 b4 b5 b6 b7 b8 b9 ca cb cc cd ce cf cg ch ci cj ck cl cm cn co:Value} (W':World),R W'->K ⟨#[p0,p1,p2,p3,p4,p5,p6,p7,p8,q9,q10,p11,p12,p13,p14,p15,p16,p17,p18,p19,a,b,c,d,e,f,g,h,i,j,k,l,m,n,o,p,q,r,s,t,u,v,w,x,y,z,A,B,C,D,E,F,G,H,I,J,L,M,N,O,P,Q,S,T,U,Vaa,W,X,Y,Z,aa,ab,ad,ae,af,ag,ah,ai,aj,ak,al,am,an,ao,ap,aq,ar,au,av,aw,ax,ay,az,aA,aB,aC,aD,aE,aF,aG,aH,aI,aJ,aK,aL,aM,aN,aO,aP,aQ,aR,aS,aT,aU,aV,aW,aX,aY,aZ,a0,a1,a2,a3,a4,a5,a6,a7,a8,a9,ba,bb,bc,bd,be,bf,bg,bh,bi,bj,bk,bl,bm,bn,bo,bp,bq,br,bs,bt,bu,bv,bw,bx,bz,bA,bB,bC,bD,bE,bF,bG,bH,bI,bJ,bK,bL,bM,bN,bO,bP,bQ,bR,bS,bT,bU,bV,bW,bX,bY,bZ,b0,b1,b2,b3,b4,b5,b6,b7,b8,b9,ca,cb,cc,cd,ce,cf,cg,ch,ci,cj,ck,cl,cm,cn,co],[]⟩ W'
def PfC(n:Nat)(W:World)(R:World->Prop)(a b c d e f g h i t u j k l m o p q r s v w:Value):Prop:=
 ∀{K:Act->World->Prop}{x y z A B C D E F G H I J L M N O P Q S T U Vaa X Y Z aa ab ad ae af ag ah ai aj ak al am an ao ap aq ar au av aw ax ay az aA aB aC aD aE aF aG aH aI aJ aK aL aM aN aO aP aQ aR aS aT aU aV aW aX aY aZ a0 a1 a2 a3 a4 a5 a6 a7 a8 a9 ba bb bc bd be bf bg bh bi bj bk bl bm bn bo bp bq br bs bt bu bv bw bx bz bA bB bC bD bE bF bG bH bI bJ bK bL bM bN bO bP bQ bR bS bT bU bV bW bX bY bZ b0 b1 b2 b3 b4 b5 b6 b7 b8 b9 ca cb cc cd ce cf cg ch ci cj ck cl cm cn co cp cq cr cs ct cu cv cw cx cy cz cA cB cC cD cE cF cG cH cI cJ cK cL cM:Value},PfK R a b c d e f g h i j k l m o p q r s v w K->Code.wp prog (P6 n) (Exit.then K λ_ _ _=>False) ⟨#[a,b,c,d,e,f,g,h,i,t,u,j,k,l,m,o,p,q,r,s,x,y,z,A,B,C,D,E,F,G,H,I,J,L,M,N,O,P,Q,S,T,U,Vaa,X,Y,Z,aa,ab,ad,ae,af,ag,ah,ai,aj,ak,al,am,an,ao,ap,aq,ar,au,av,aw,ax,ay,az,aA,aB,aC,aD,aE,aF,aG,aH,aI,aJ,aK,aL,aM,aN,aO,aP,aQ,aR,aS,aT,aU,aV,aW,aX,aY,aZ,a0,a1,a2,a3,a4,a5,a6,a7,a8,a9,ba,bb,bc,bd,be,bf,bg,bh,bi,bj,bk,bl,bm,bn,bo,bp,bq,br,bs,bt,bu,bv,bw,bx,bz,bA,bB,bC,bD,bE,bF,bG,bH,bI,bJ,bK,bL,bM,bN,bO,bP,bQ,bR,bS,bT,bU,bV,bW,bX,bY,bZ,b0,b1,b2,b3,b4,b5,b6,b7,b8,b9,ca,cb,cc,cd,ce,cf,cg,ch,ci,cj,ck,cl,cm,cn,co,cp,cq,cr,cs,ct,cu,cv,cw,cx,cy,cz,cA,cB,cC,cD,cE,cF,cG,cH,cI,cJ,cK,cL,cM],[]⟩ W
end
section
open Go.RowKit Flt Ieee
variable{us r:List Vl}
theorem Nf{q}(h:q<us.length):vd (us++r) q=vd us q:=by
 unfold vd;exact xhx
theorem Ng(q):vd (us++r) (us.length+q)=vd r q:=by
 unfold vd;rw[yai,yas xaa,Nat.add_sub_cancel_left,<-yai]
