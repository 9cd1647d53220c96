import Derived.Test.YtaheilbiakhlgaaGreatP10
import Derived.Test.YtaheilbiakhlgaaGreatP09
import Derived.Test.YtaheilbiakhlgaaGreatP30
namespace Go.Proofs.Z
variable{Zp:Prop}
open Tryz
set_option maxRecDepth 1000000
set_option maxHeartbeats 0
section
open Go.RowKit Flt
attribute[local go_sem] eF eE eD
variable{w J:World}{g n k:Nat}{a:Option Addr}{xs:List Nat}{aT ck:Nat->Nat}{xss:List (List Nat)}
structure FO(w:World)(g n:Nat)(xs:List Nat):Prop where
 len:xs.length=n
 bnd:∀x∈xs,x<18446744073709551616
 lt:g<w.heap.size
 at_:∀k,k<n->w.cell? ⟨g,k,none⟩=some (.float .f64 (xs.getD k 0))
 free:∀o,w.frozen? ⟨g,o,none⟩=false
theorem FO.keep{l h}(f:FO w g n xs)(k:Kept l h w J)(G:g<l\/h<=g\/h<=l):FO J g n xs:=
 ⟨f.len,f.bnd,yaj f.lt k.size,λj hj=>by rw[k.cell (p:=⟨g,j,none⟩) f.lt (by show ¬(l<=g/\g<h);omega)];exact f.at_ j hj,λo=>by rw[k.frozen (p:=⟨g,o,none⟩) f.lt (by show ¬(l<=g/\g<h);omega)];exact f.free o⟩
theorem FO.fs(f:FO w g n xs):FS w 0 w.heap.size (some ⟨g,0,none⟩) n xs:=
 ⟨f.len,f.bnd,.inr ⟨g,0,rfl,Nat.zero_le _,f.lt,f.lt,λk O=>by rw[Nat.zero_add];exact f.at_ k O⟩⟩
structure SS(w:World)(a:Option Addr)(n:Nat)(xss:List (List Nat)):Prop where
 len:xss.length=n
 at_:n=0\/∃g off,a=some ⟨g,off,none⟩/\g<w.heap.size/\∀k,k<n->∃b c,w.cell? ⟨g,off+k,none⟩=some (.slice b (xss.getD k []).length c)/\(xss.getD k []).length<=c/\FS w 0 w.heap.size b (xss.getD k []).length (xss.getD k [])
theorem FS.keep0(f:FS w 0 w.heap.size a n xs)(k:Kept 0 0 w J):FS J 0 J.heap.size a n xs:=
 (f.keep k yaa).mono yad k.size
theorem SS.keep(f:SS w a n xss)(k:Kept 0 0 w J):SS J a n xss:=
 ⟨f.len,by
  rcases f.at_ with ai|⟨g,off,e,B,U⟩
  ·exact .inl ai
  ·refine .inr ⟨g,off,e,yaj B k.size,λj hj=>?_⟩
   obtain⟨b,c,bG,aC,ay⟩:=U j hj
   exact⟨b,c,jC k B bG,aC,ay.keep0 k⟩⟩
structure SP(w:World)(g n k:Nat)(gf cf:Nat->Nat)(xss:List (List Nat)):Prop where
 lt:g<w.heap.size
 free:∀o,w.frozen? ⟨g,o,none⟩=false
 cell:∀j,j<k->w.cell? ⟨g,j,none⟩=some (.slice (some ⟨gf j,0,none⟩) (xss.getD j []).length (cf j))
 rest:∀j,j<n->∃u,w.cell? ⟨g,j,none⟩=some u
 cap:∀j,j<k->(xss.getD j []).length<=cf j
 own:∀j,j<k->FO w (gf j) (xss.getD j []).length (xss.getD j [])
 up:∀j,j<k->g<gf j
 inc:∀i j,i<j->j<k->gf i<gf j
theorem SP.keep(f:SP w g n k aT ck xss)(q:Kept 0 0 w J):SP J g n k aT ck xss:=
 ⟨yaj f.lt q.size,λo=>by rw[q.frozen (p:=⟨g,o,none⟩) f.lt xaa];exact f.free o,λj hj=>jC q f.lt (f.cell j hj),λj hj=>(f.rest j hj).imp λ_ h=>jC q f.lt h,f.cap,λj hj=>(f.own j hj).keep q yaa,f.up,f.inc⟩
def upd(f:Nat->Nat)(k x:Nat):Nat->Nat:=λj=>if j=k then x else f j
theorem m9(f k x):upd f k x k=x:=hI rfl
theorem kI{f x j}(h:j≠k):upd f k x j=f j:=hG h
theorem SP.step(f:SP w g n k aT ck xss)(O:k<n)(q:Kept 0 0 w J){G c}
  (ax:FO J G (xss.getD k []).length (xss.getD k [])) (bl:w.heap.size<=G) (ak:(xss.getD k []).length<=c):
  SP (J.setCell ⟨g,k,none⟩ (hE G (xss.getD k []).length c)) g n (k+1) (upd aT k G) (upd ck k c) xss:=by
 have p:=f.keep q;have an:=f.lt;have U:∀v,Kept g (g+1) J (J.setCell ⟨g,k,none⟩ v):=λv=>eU J ⟨g,k,none⟩ v yac;obtain⟨u,aI⟩:=p.rest k O;refine⟨by simpa using p.lt,λo=>by simp[p.free o],λj hj=>?_,λj hj=>?_,λj hj=>?_,λj hj=>?_,λj hj=>?_,λi j f7 hj=>?_⟩
 ·by_cases e:j=k
  ·subst e;rw[m9,m9];exact fR _ _ _ _ _ aI
  rw[kI e,kI e,eN _ _ _ _ _ _ (.inr (Ne.symm e))];exact p.cell j xaa
 ·by_cases e:j=k
  ·subst e;exact⟨_,fR _ _ _ _ _ aI⟩
  rw[eN _ _ _ _ _ _ (.inr (Ne.symm e))];exact p.rest j hj
 ·by_cases e:j=k
  ·subst e;rw[m9];exact ak
  rw[kI e];exact f.cap j xaa
 ·by_cases e:j=k
  ·subst e;rw[m9];exact ax.keep (U _) xaa
  rw[kI e];exact(p.own j xaa).keep (U _) (hO (f.up j xaa))
 ·by_cases e:j=k
  ·subst e;rw[m9];omega
  rw[kI e];exact f.up j xaa
 by_cases e:j=k
 ·subst e;rw[m9,kI xaa];have:=(f.own i xaa).lt;omega
 rw[kI e,kI xaa];exact f.inc i j f7 xaa
theorem SP.ss(f:SP w g n n aT ck xss)(ah:xss.length=n):SS w (some ⟨g,0,none⟩) n xss:=
 ⟨ah,.inr ⟨g,0,rfl,f.lt,λk O=>⟨_,_,by rw[Nat.zero_add];exact f.cell k O,f.cap k O,(f.own k O).fs⟩⟩⟩
theorem BJ:(prog.info? 54).map (λi=>(i.zero,i.size,i.bytes))=some (some (.slice none 0 0),1,24):=by kernel_rfl
theorem Gh(n:Nat)(w)(hn:n<=1099511627776):
  (Instr.makeSlice 32 (hF n) (hF n)).run prog w=.ok (hE w.heap.size n n) (w.alloc (.cells (madeCells #[.slice none 0 0] n) 54)):=by
 obtain⟨i,hi,bn,bQ,br⟩:=info_parts BJ;have:=run_make (P:=prog) w 32 54 i (.slice none 0 0) underlying32 hi bn .i64 .i64 n n xaa xaa (hT br) xaa;exact qct
theorem SP.made(w:World)(n aT ck xss):SP (w.alloc (.cells (madeCells #[.slice none 0 0] n) 54)) w.heap.size n 0 aT ck xss where
 lt:=by simp
 free:=λo=>by simp
 cell:=λj hj=>absurd hj (Nat.not_lt_zero _)
 rest:=λj hj=>by
  rw[yau]
  refine⟨.slice none 0 0,?_⟩
  simp only[madeCells]
  rw[Array.getElem?_map,Array.getElem?_range,hI hj]
  have aw:j%1=0:=Nat.mod_one j
  simp[aw]
 cap:=λj hj=>absurd hj (Nat.not_lt_zero _)
 own:=λj hj=>absurd hj (Nat.not_lt_zero _)
 up:=λj hj=>absurd hj (Nat.not_lt_zero _)
 inc:=λi j _ hj=>absurd hj (Nat.not_lt_zero _)
end
section
open Go.RowKit Flt
variable{x y u K N:Nat}{xs bc Q S aq p G ar:List Nat}{op len C:Int}
theorem Da(ap:x<18446744073709551616)(bS:y<18446744073709551616)(h:fb x=fb y):fb (Op.negFloat .f64 x)=fb (Op.negFloat .f64 y):=by
 rcases mS h with rfl|⟨a,b⟩
 ·rfl
 have au:∀z,z<18446744073709551616->(f64.read z).isNaN=true->(f64.read (Op.negFloat _ z)).isNaN=true:=λz bz hn=>by
  obtain⟨s,r,av,rfl⟩:=jB z bz
  rw[Bm s av]
  rcases Nat.lt_or_ge 9218868437227405312 r with c|c
  ·rw[show f64.read _=_ from pY c av];rfl
  ·have:=mC (s:=s) c
   rw[vR,hn]at this
   cases this
 exact ux (au x ap a) (au y bS b)
theorem ur(h:fb x=fb u)(h':fb y=fb N):fb (jp x y)=fb (jp u N):=by
 have e:FloatKind.f64.format.order x y=FloatKind.f64.format.order _ _:=lC h h';unfold jp;rw[e];split
 ·exact h
 exact h'
theorem xB{z j}(h:fb x=fb u)(h':fb y=fb N)(f:fb z=fb j):fb (iz x y z)=fb (iz u N j):=by
 have e:FloatKind.f64.format.order x 0=FloatKind.f64.format.order _ 0:=lC h rfl;unfold iz;rw[e];split
 ·exact h'
 exact f
theorem Db(h:fb x=fb y):fb (qh x)=fb (qh y):=by
 have af:FloatKind.f64.format.order x x=FloatKind.f64.format.order y y:=lC h h;have a0:FloatKind.f64.format.order x 4652007308841189376=FloatKind.f64.format.order y _:=lC h rfl;have aj:FloatKind.f64.format.order x 13875379345695965184=FloatKind.f64.format.order y _:=lC h rfl;unfold qh;rw[af,a0,aj,ib _ h rfl];split
 ·exact h
 rfl
theorem AK(h:gH xs bc)(ai:0<xs.length):fb (kT xs)=fb (kT bc):=by
 have ah:=jY h
 have au:∀k,0<k->k<=xs.length->fb (kT (xs.take k))=fb (kT (bc.take k)):=λk=>by
  induction k with
  |zero=>intro c;omega
  |succ k al=>
   intro _ O
   rcases Nat.eq_zero_or_pos k with c|c
   ·subst c
    rw[qj _ ai,qj _ xaa]
    exact io h 0
   ·rw[oT _ k c xaa,oT _ k c xaa,ib _ (al c xaa) (io h k)]
 have:=au _ ai yad;rw[yao yad,yao xaa]at this;exact this
theorem J0{P X l}(h:fp op len C P X l=true)(ab:op=9):0<P:=by
 subst ab;simp[fp,eR,cnt,lenB]at h;omega
theorem AL{k}(F:gH Q p)(hb:gH S G)(ak:gH aq ar)(P:∀x∈Q,x<18446744073709551616)(f:∀x∈p,x<18446744073709551616)(ab:op=9->0<Q.length):
  fb (fD op C K Q S aq k)=fb (fD op C K p G ar k):=by
 unfold fD;by_cases c:op=1
 ·rw[hI c,hI c]
 rw[hG c,hG c];clear c;by_cases c:op=2
 ·exact xgd
 rw[hG c,hG c];clear c;by_cases c:op=3
 ·exact xgd
 rw[hG c,hG c];clear c;by_cases c:op=4
 ·exact xgd
 rw[hG c,hG c];clear c;by_cases c:op=5
 ·exact xgd
 rw[hG c,hG c];clear c;by_cases c:op=6
 ·rw[hI c,hI c];exact Da (fC P k) (fC f k) (io F k)
 rw[hG c,hG c];clear c;by_cases c:op=7
 ·rw[hI c,hI c];exact ur (io F k) (io hb k)
 rw[hG c,hG c];clear c;by_cases c:op=8
 ·rw[hI c,hI c];exact xB (io F k) (io hb k) (io ak k)
 rw[hG c,hG c];clear c;by_cases c:op=9
 ·rw[hI c,hI c];exact AK F (ab c)
 rw[hG c,hG c];clear c;by_cases c:op=10
 ·rw[hI c,hI c];exact io F 0
 rw[hG c,hG c];clear c;by_cases c:op=11
 ·rw[hI c,hI c];exact io F _
 rw[hG c,hG c];clear c;by_cases c:op=12
 ·rw[hI c,hI c];by_cases d:k=C.toNat
  ·rw[hI d,hI d];exact io F 0
  rw[hG d,hG d]
 rw[hG c,hG c];exact Db (io F k)
theorem pP(F:gH Q p)(hb:gH S G)(ak:gH aq ar)(P:∀x∈Q,x<18446744073709551616)(f:∀x∈p,x<18446744073709551616):
  gH (jD op len C K Q S aq) (jD op len C K p G ar):=by
 unfold jD;rw[<-jY F,<-jY hb,<-jY ak];cases a9:fp op len C Q.length S.length aq.length
 ·rfl
 rw[hI rfl,hI rfl];refine vT xac λk O=>?_;have af:k<len.toNat:=by simpa using O
 have e:=AL (C:=C) (K:=K) (k:=k) F hb ak P f (λab=>J0 a9 ab);simpa[List.getD_eq_getElem?_getD,af] using e
theorem iZ{zs}(h:gH xs bc)(h':gH bc zs):gH xs zs:=Eq.trans h h'
theorem vf(h:gH xs bc):gH bc xs:=Eq.symm h
def one(xss:List (List Nat))(v:Vl)(Vs:List (List Nat)):List Nat:=
 if v.op=0 then xss.getD v.a.toNat [] else
  jD v.op v.len v.c v.k (if 0<cnt v.op then Vs.getD v.a.toNat [] else[]) (if 1<cnt v.op then Vs.getD v.b.toNat [] else[]) (if 2<cnt v.op then Vs.getD v.c.toNat [] else[])
def fw(xss:List (List Nat))(vs:List Vl):Nat->List (List Nat)
 |0=>[]
 |i+1=>fw xss vs i++[one xss (vs.getD i hK) (fw xss vs i)]
theorem i5(xss vs):∀i,(fw xss vs i).length=i
 |0=>rfl
 |i+1=>by rw[fw,yak,i5 _ _ i];rfl
theorem jh(xss vs){i j}(h:j<i):(fw xss vs (i+1)).getD j []=(fw xss vs i).getD j []:=by
 rw[fw,yah,yas (by rw[i5];exact h),<-yah]
theorem kJ(xss vs i):(fw xss vs (i+1)).getD i []=one xss (vs.getD i hK) (fw xss vs i):=by
 rw[fw,yah,yar (by rw[i5];exact yad),i5,Nat.sub_self];rfl
theorem vg(xss vs){i j}:∀n,j<i->(fw xss vs (i+n)).getD j []=(fw xss vs i).getD j []
 |0,_=>rfl
 |n+1,h=>by rw[<-Nat.add_assoc,jh _ _ xaa];exact vg _ _ n h
def inB(ins:List Int)(xss:List (List Nat)):Bool:=decide (xss.length=ins.length)&&(List.range ins.length).all λi=>((xss.getD i []).length:Int)==ins.getD i 0
theorem Gi(h:fp op len C Q.length S.length aq.length=true):(jD op len C K Q S aq).length=len.toNat:=by
 unfold jD;rw[hI h];simp
theorem qJ{ins vs xss}(hi:inB ins xss=true):∀i,(List.range i).all (okV ins vs)=true->∀j,j<i->(((fw xss vs i).getD j []).length:Int)=(vs.getD j hK).len
 |0,_,j,hj=>by omega
 |i+1,h,j,hj=>by
  have av:(List.range i).all (okV ins vs)=true:=by rw[List.range_succ,List.all_append]at h;rw[Bool.and_eq_true]at h;exact h.1
  have al:=qJ hi i av
  by_cases e:j<i
  ·rw[jh _ _ e];exact al j e
  ·have:j=i:=xaa
   subst this
   rw[kJ]
   have ax:=List.all_eq_true.1 h j (List.mem_range.2 yae)
   have b8:=iq ax
   unfold okV at ax
   generalize vs.getD j _=v at ax b8⊢
   rw[Bool.and_eq_true,Bool.and_eq_true]at ax
   obtain⟨⟨B,U⟩,h3⟩:=ax
   unfold one
   by_cases ai:v.op=0
   ·rw[hI ai]at h3⊢
    rw[Bool.and_eq_true]at h3
    have F:=of_decide_eq_true h3.1
    unfold inB at hi
    rw[Bool.and_eq_true]at hi
    have ap:=List.all_eq_true.1 hi.2 v.a.toNat (List.mem_range.2 xaa)
    rw[beq_iff_eq.1 ap]
    exact(beq_iff_eq.1 h3.2).symm
   ·rw[hG ai]at h3⊢
    rw[Bool.and_eq_true]at h3
    have ao:=h3.1
    have ae:=h3.2
    have ak:=gK v.op
    have au:∀o,fN o j=true->(((fw _ _ j).getD _ _).length:Int)=(vs.getD o.toNat _).len:=λo ax=>by
     have:=of_decide_eq_true ax
     exact al _ xaa
    rw[Gi]
    ·omega
    ·unfold fp
     rw[B,Bool.true_and]
     unfold eY at ao ae
     rcases (by omega:cnt v.op=0\/cnt v.op=1\/cnt v.op=2\/cnt v.op=3) with e|e|e|e
     ·rw[e]at ae⊢;exact ae
     ·rw[e]at ao ae⊢
      simp only[List.take_succ_cons,List.take_zero,List.all_cons,List.all_nil,Bool.and_true,List.map_cons,List.map_nil]at ao ae⊢
      rw[hI xaa,au _ ao]
      exact ae
     ·rw[e]at ao ae⊢
      simp only[List.take_succ_cons,List.take_zero,List.all_cons,List.all_nil,Bool.and_true,Bool.and_eq_true,List.map_cons,List.map_nil]at ao ae⊢
      rw[hI xaa,hI xaa,au _ ao.1,au _ ao.2]
      exact ae
     ·rw[e]at ao ae⊢
      simp only[List.take_succ_cons,List.take_zero,List.all_cons,List.all_nil,Bool.and_true,Bool.and_eq_true,List.map_cons,List.map_nil]at ao ae⊢
      rw[hI xaa,hI xaa,hI xaa,au _ ao.1,au _ ao.2.1,au _ ao.2.2]
      exact ae
end
section
open Go.RowKit Flt
attribute[local go_sem] eF eE eD
variable{w J:World}{x base n K:Nat}{v:Value}{xs Q S aq:List Nat}
theorem Dc(w lo hi a b n m bu b2 ins xss)(f:IS w lo hi a n ins)(g:SS w b m xss)(hn:n<=1099511627776):
  Calls prog 28 #[.slice a n bu,.slice b m b2] w λe J=>e=.returned (.bool (inB ins xss))/\Drawn w J:=by
 have aL:V _:=f;have bk:V _:=g;have HL:V (ins.length=n/\xss.length=m):=⟨f.len,g.len⟩
 clear f g;by_cases ae:m=n
 ·subst ae;go_enter func28,ntmps28;go_wp2_with fail;go_loop [14] (λi=>∃k:Nat,k<=m/\i=hF k/\V ((List.range k).all (λi=>((xss.getD i []).length:Int)==ins.getD i 0)=true)) (λi=>m-(intOf i).toNat)
  case atStart=>exact⟨0,Nat.zero_le _,rfl,rfl⟩
  case round=>
   obtain⟨k,O,rfl,a2⟩:=hrel;by_cases aB:k<m
   ·rcases aL.o.at_ with bR|⟨aA,bK,cc,aS,bb,bq,bD⟩
    ·omega
    rcases bk.o.at_ with bR|⟨ca,bB,cp,aR,aV⟩
    ·omega
    have c1:=bD k aB;obtain⟨aD,h,c2,_,_⟩:=aV k aB;subst cc cp;clear aS bb bq bD aR aV;cases ap:(((xss.getD k []).length:Int)==ins.getD k 0)
    ·have R:V (inB ins xss=false):=by
      show inB ins xss=false;unfold inB;rw[HL.o.1,lW (p:=λi=>((xss.getD i []).length:Int)==ins.getD i 0) aB ap,Bool.and_false]
     have av:(((xss.getD k []).length:Int) !=ins.getD k 0)=true:=by rw[bne,ap];rfl
     generalize (xss.getD k []).length=y at c2 av;generalize ins.getD k 0=x at c1 av;clear ap a2;go_wp2;go_ret;exact⟨hU R.o,Drawn.refl _⟩
    have R:V _:=kV (p:=λi=>((xss.getD i []).length:Int)==ins.getD i 0) a2.o ap;have av:(((xss.getD k []).length:Int) !=ins.getD k 0)=false:=by rw[bne,ap];rfl
    generalize (xss.getD k []).length=y at c2 av;generalize ins.getD k 0=x at c1 av;exact xii
   have R:V (inB ins xss=true):=by
    exact xhv
   clear a2;go_wp2;go_ret;exact⟨hU R.o,Drawn.refl _⟩
 have e:inB ins xss=false:=by
  exact xks
 rw[e];have t:((m:Int) !=(n:Int))=true:=by simp;omega
 go_enter func28,ntmps28;go_wp2;go_ret;exact⟨rfl,Drawn.refl _⟩
theorem FO.of_own{W}(h:W.ownsRow base 38 1 v n (xs.map (Value.float .f64)))(hn:0<n)(ah:xs.length=n)(hb:∀x∈xs,x<18446744073709551616):
  ∃g cap,v=hE g n cap/\base<=g/\n<=cap/\FO W g n xs:=by
 rcases h.2 with⟨_,c⟩|⟨g,cap,H,rfl,N,aD,ad,_,bE,bY⟩
 ·omega
 have aQ:g<W.heap.size:=by
  exact xdl
 refine⟨g,_,rfl,N,ad,ah,hb,aQ,λj hj=>?_,λo=>frozen_of_row W g o _ _ aD⟩;rw[cell_of_row W g _ _ _ _ aD,<-Array.getElem?_toList];have:(H.toList.take (n*1))[j]? =(xs.map (Value.float .f64))[j]?:=by rw[bY]
 exact xfy
theorem BK{g off}(ap:xs.length=n)(ak:∀k,k<n->w.cell? ⟨g,off+k,none⟩=some (.float .f64 (xs.getD k 0))):
  ∀j u,(xs.map (Value.float .f64))[j]? =some u->w.cell? ((⟨g,off,none⟩:Addr).add j)=some u:=λj u aI=>by
 have hj:j<n:=by
  rcases Nat.lt_or_ge j n with c|c
  ·exact c
  ·rw[List.getElem?_eq_none yaf]at aI;cases aI
 have B:=ak j hj
 have e:(⟨g,off,none⟩:Addr).add j=⟨g,off+j,none⟩:=by
  unfold Addr.add;split
  ·rename_i ai;rw[ai];rfl
  ·rfl
 rw[e,B]
 rw[List.getElem?_map,yal (by omega:j<xs.length)]at aI
 simp only[Option.map_some]at aI
 rw[<-aI,yah,yal (by omega:j<xs.length)];rfl
theorem jo{ay}(h:w.grownBy J ay)(av:∀k,ay=some k->base<=k){aC}(k:Kept 0 0 aC w)(hb:aC.heap.size<=base):Kept 0 0 aC J:=
 ⟨h.os.trans k.os,h.tape.trans k.tape,h.output.trans k.output,yan k.size h.size,λi hi _=>by
  rw[h.block i (yaj hi k.size) (λc=>hO (av i c.symm))]
  exact k.block i hi xaa⟩
theorem Pe(w g off n c xs)(hn:1<=n)(b5:n<=1000000)(aQ:g<w.heap.size)(ap:xs.length=n)(aB:∀x∈xs,x<18446744073709551616)(ak:∀k,k<n->w.cell? ⟨g,off+k,none⟩=some (.float .f64 (xs.getD k 0))):
  Calls prog 30 #[.slice (some ⟨g,off,none⟩) n c] w λe J=>∃G cap,e=.returned (hE G n cap)/\n<=cap/\FO J G n xs/\w.heap.size<=G/\Kept 0 0 w J:=by
 obtain⟨bC,hi,bn,bQ,br⟩:=info_parts lD
 have i:(binOp .eql 54 (.slice (some ⟨g,off,none⟩) n c) (.slice none 0 0)).run prog w=.ok (.bool false) w:=by
  simp only[binOp];simp[run_equal_slice_nil w 54 38 (some ⟨g,off,none⟩) n c underlying54]
 have bE:=ez 0 0 w (.cells #[] 38);have bw:V _:=BK (w:=w.alloc (.cells #[] 38)) (g:=g) (off:=off) ap (λk O=>jC bE aQ (ak k O));have HO:V _:=World.ownsRow_made (base:=w.heap.size) (e:=38) (size:=1) w #[] 0 yad (by unfold maxLen;omega) rfl;have q:V _:=bE;have bu:V (xs.length=n):=ap;have f:V _:=aB;clear ak ap aB bE;go_enter func30,ntmps30;go_wp2_with (first|(at_builtin;refine wpList_append_own _ rfl _ _ 54 rfl w.heap.size 38 bC (.float .f64 0) 1 8 underlying54 hi bn bQ br rfl xab _ _ _ rfl HO.o ⟨g,off,none⟩ n c (xs.map (Value.float .f64)) rfl ?c0 bw.o ?c2 ?c3 ?c4 ?c5 ?_))
 case c0=>exact bu.o
 case c2=>intro u aI;rfl
 case c3=>unfold maxLen;omega
 case c4=>omega
 intro v' be bv a6 _;obtain⟨G,cap,rfl,N,aD,ad⟩:=FO.of_own bv xaa bu.o f.o;have R:V _:=jo (base:=w.heap.size) a6 (λk O=>by have:w.heap.size=k:=(by simpa[Value.ownBlock] using O);omega) q.o yad;clear bv a6;go_wp2;go_ret;exact⟨G,cap,rfl,aD,ad,N,R.o⟩
def Cl(w:World)(v:Value)(xs:List Nat):Prop:=∃b n c zs,v=.slice b n c/\n<=c/\FS w 0 w.heap.size b n zs/\gH zs xs
theorem Cl.keep(h:Cl w v xs)(k:Kept 0 0 w J):Cl J v xs:=by
 obtain⟨b,n,c,zs,B,U,h3,a6⟩:=h;exact⟨b,n,c,_,B,U,h3.keep0 k,a6⟩
theorem Cl.nil(w):Cl w (.slice none 0 0) []:=⟨none,0,0,[],rfl,yad,⟨rfl,by simp,.inl rfl⟩,rfl⟩
def Cn(w:World)(lo:Nat)(v:Value)(xs:List Nat):Prop:=∃b n c zs,v=.slice b n c/\n<=c/\FS w lo w.heap.size b n zs/\gH zs xs
theorem Cn.cl{lo}(h:Cn w lo v xs):Cl w v xs:=by
 obtain⟨b,n,c,zs,B,U,h3,a6⟩:=h;exact⟨b,n,c,_,B,U,h3.mono (Nat.zero_le _) yad,a6⟩
theorem yX(w)(v:Vl)(ar:v.k<18446744073709551616)(x y z Q S aq)(F:Cl w x Q)(hb:Cl w y S)(ak:Cl w z aq)(P:∀q∈Q,q<18446744073709551616):
  Calls prog 55 #[v.agg,x,y,z] w λe J=>∃u,e=.returned u/\Cn J w.heap.size u (jD v.op v.len v.c v.k Q S aq)/\Kept 0 0 w J:=by
 obtain⟨a,j,bu,f,rfl,a1,Z,a3⟩:=F;obtain⟨b,am,b2,B,rfl,N,aD,ad⟩:=hb;obtain⟨c,a7,bT,g,rfl,c1,c2,c3⟩:=ak;refine(x8 w v.op v.len v.a v.b v.c v.k ar Z aD c2 a1).mono ?_;rintro e J ⟨ag,n,cap,zs,rfl,ax,ae,O,hn⟩;exact⟨_,rfl,⟨ag,n,cap,zs,rfl,hn,ax.fs,iZ ae (pP a3 ad c3 Z.lt P)⟩,O⟩
theorem yY(w)(v:Vl)(ar:v.k<18446744073709551616)(x y z Q S aq)(F:Cl w x Q)(hb:Cl w y S)(ak:Cl w z aq)(P:∀q∈Q,q<18446744073709551616):
  Calls prog 47 #[v.agg,x,y,z] w λe J=>∃u,e=.returned u/\Cn J w.heap.size u (jD v.op v.len v.c v.k Q S aq)/\Kept 0 0 w J:=by
 obtain⟨a,j,bu,f,rfl,a1,Z,a3⟩:=F;obtain⟨b,am,b2,B,rfl,N,aD,ad⟩:=hb;obtain⟨c,a7,bT,g,rfl,c1,c2,c3⟩:=ak;refine(x9 w v.op v.len v.a v.b v.c v.k ar Z aD c2 a1).mono ?_;rintro e J ⟨ag,n,cap,zs,rfl,ax,ae,O,hn⟩;exact⟨_,rfl,⟨ag,n,cap,zs,rfl,hn,ax,iZ ae (pP a3 ad c3 Z.lt P)⟩,O⟩
theorem oD(op x y):cop op x y<18446744073709551616:=by
 unfold cop;cases h:floatBits op .f64 x y with
 |none=>decide
 |some r=>
  have:=floatBits_wf h;simpa[Lit.wf] using this
theorem J1(ap:x<18446744073709551616):qh x<18446744073709551616:=by
 unfold qh;split
 ·exact ap
 split
 ·decide
 split
 ·decide
 exact oD _ _ _
theorem BL:∀(xs:List Nat) (x:Nat),x<18446744073709551616->xs.foldl (cop .add) x<18446744073709551616
 |[],_,h=>h
 |y::bc,x,_=>BL bc (cop .add x y) (oD _ _ _)
theorem J2(h:∀x∈xs,x<18446744073709551616):kT xs<18446744073709551616:=by
 cases xs with
 |nil=>decide
 |cons x r=>exact BL r x (h x xac)
theorem mx{p}[Decidable p]{y}(ap:x<18446744073709551616)(bS:y<18446744073709551616):(if p then x else y)<18446744073709551616:=by
 split
 ·exact ap
 exact bS
theorem J3{op C}(ar:K<18446744073709551616)(F:∀x∈Q,x<18446744073709551616)(hb:∀x∈S,x<18446744073709551616)(ak:∀x∈aq,x<18446744073709551616)(k):fD op C K Q S aq k<18446744073709551616:=by
 have br:=fC F;have a9:=fC hb;have c0:=fC ak;unfold fD jp iz;exact mx ar (mx (oD _ _ _) (mx (oD _ _ _) (mx (oD _ _ _) (mx (oD _ _ _) (mx (vX (br _)) (mx (mx (br _) (a9 _)) (mx (mx (a9 _) (c0 _)) (mx (J2 F) (mx (br _) (mx (br _) (mx (mx (br _) xab) (J1 (br _)))))))))))))
theorem J4{op len C}(ar:K<18446744073709551616)(F:∀x∈Q,x<18446744073709551616)(hb:∀x∈S,x<18446744073709551616)(ak:∀x∈aq,x<18446744073709551616):∀x∈jD op len C K Q S aq,x<18446744073709551616:=by
 unfold jD;split
 ·intro x ap;obtain⟨k,_,rfl⟩:=List.mem_map.1 ap;exact J3 ar F hb ak k
 intro x ap;cases ap
def jk(xss:List (List Nat)):Prop:=∀k,∀x∈xss.getD k [],x<18446744073709551616
theorem pQ{p}[Decidable p](h:∀x∈xs,x<18446744073709551616):∀x∈(if p then xs else[]),x<18446744073709551616:=by
 split
 ·exact h
 intro x ap;cases ap
theorem Nw{xss v l}(ap:jk xss)(aM:v.k<18446744073709551616)(ak:jk l):∀x∈one xss v l,x<18446744073709551616:=by
 unfold one;split
 ·exact ap _
 exact J4 aM (pQ (ak _)) (pQ (ak _)) (pQ (ak _))
theorem lS{xss vs}(ap:jk xss)(aM:∀k,(vs.getD k hK).k<18446744073709551616):∀i,jk (fw xss vs i)
 |0=>λk x h=>by simp[fw]at h
 |i+1=>λk x h=>by
  have al:=lS ap aM i
  rcases Nat.lt_trichotomy k i with c|c|c
  ·rw[jh _ _ c]at h;exact al k x h
  ·subst c;rw[kJ]at h;exact Nw ap (aM _) al x h
  ·rw[yah,List.getElem?_eq_none (by rw[i5];omega)]at h;cases h
end
section
open Go.RowKit Flt Ieee
abbrev vd(vs:List Vl)(i:Nat):Vl:=vs.getD i hK
end
section
open Go.RowKit Flt
attribute[local go_sem] eF eE eD
variable{w W':World}{I P n cap i Q:Nat}{a:Option Addr}{bs ins outs:List Int}{u1 u2 u3:Value}{vs:List Vl}
abbrev iR:Value:=.slice none 0 0
structure GrS(W:World)(B P:Nat)(a:Option Addr)(n cap i:Nat)(bs:List Int)(Q:Nat)(u1 u2 u3:Value)(ins:List Int)(vs:List Vl)(outs:List Int):Prop where
 rd:RdF W P a n cap i bs
 dg:DG W B u1 u2 u3 ins vs outs
 bx:RB W Q u1 u2 u3
 rs:RB W (Q+1) iR iR iR
 pb:P<B
 bq:B<=Q
 far:∀b,u1.ownBlock=some b\/u2.ownBlock=some b\/u3.ownBlock=some b->b<Q
theorem GrS.step{W F}(f:GrS W I P a n cap i bs Q u1 u2 u3 ins vs outs)(C:RdF W' P a n cap F bs)(k:Kept P (P+1) W W'):GrS W' I P a n cap F bs Q u1 u2 u3 ins vs outs:=
 ⟨C,f.dg.kept k (hO f.pb),f.bx.kept k (hQ f.pb f.bq),f.rs.kept k (hQ f.pb f.bq),f.pb,f.bq,f.far⟩
theorem GrS.keep{W}(f:GrS W I P a n cap i bs Q u1 u2 u3 ins vs outs)(k:Kept 0 0 W W'):GrS W' I P a n cap i bs Q u1 u2 u3 ins vs outs:=f.step (f.rd.keep0 k) (ft k)
theorem GrS.next{W}(f:GrS W I P a n cap i bs Q u1 u2 u3 ins vs outs):
  Calls prog 32 #[hD P] W λe W'=>e=.returned (hF (nv bs i:Int))/\GrS W' I P a n cap (ni bs i) bs Q u1 u2 u3 ins vs outs/\Kept P (P+1) W W':=
 (jg W P a n cap i bs f.rd).mono λ_ _ q=>⟨q.1,f.step q.2.1 q.2.2.1,q.2.2.1⟩
theorem GrS.start(f:DG w I u1 u2 u3 ins vs outs)(C:RdF w P a n cap i bs)(hP:P<I):
  GrS ((w.alloc (.cells #[u1,u2,u3] 26)).alloc fE) I P a n cap i bs w.heap.size u1 u2 u3 ins vs outs/\Kept 0 0 w ((w.alloc (.cells #[u1,u2,u3] 26)).alloc fE):=by
 have am:=ez 0 0 w (.cells #[u1,u2,u3] 26);have an:=ez 0 0 (w.alloc (.cells #[u1,u2,u3] 26)) fE;have hb:=sh (S:=λ_=>False) w _ #[u1,u2,u3] 26 (an.chg) (λc=>c);have bB:=gg (w.alloc (.cells #[u1,u2,u3] 26));rw[show(w.alloc (.cells #[u1,u2,u3] 26)).heap.size=w.heap.size+1 by simp]at bB;refine⟨⟨C.keep0 (am.trans an),f.keep (am.trans an),⟨hb.2.2,hb.1 0,hb.1 1,hb.1 2,hb.2.1 0,hb.2.1 1,hb.2.1 2⟩,bB,hP,f.sz,?_⟩,am.trans an⟩;rintro b (c|c|c)
 ·exact(eI f.r1 c).2
 ·exact(eI f.r2 c).2
 exact(eI f.r3 c).2
def fbz(k:Nat):Nat:=if k=0 then 0 else fb k
theorem AM(k):fbz k=fb k:=by
 unfold fbz;split
 ·rename_i h;rw[h];exact fb_zero.symm
 rfl
def sv(v:Vl):Vl:=⟨v.op,v.len,v.a,v.b,v.c,fbz v.k⟩
def GwO(w:World)(B P:Nat)(a:Option Addr)(n cap i:Nat)(bs:List Int)(u1 u2 u3:Value)(ins:List Int)(vs:List Vl)(outs:List Int)(v0:Vl)(e:Ending)(w':World):Prop:=
 ∃v g' cap',e=.returned (.agg #[u1,.slice (some ⟨g',0,none⟩) (vs.length+1) cap',u3])/\sv v=v0/\DG w' B u1 (.slice (some ⟨g',0,none⟩) (vs.length+1) cap') u3 ins (vs++[v]) outs/\RdF w' P a n cap i bs/\Chg (λb=>b=P\/u2.ownBlock=some b) w w'/\(u2.ownBlock=some g'\/w.heap.size<=g')
theorem rt{J S}(f:RdF w P a n cap i bs)(k:Chg S w J)(aU:∀b,S b->P<b):RdF J P a n cap i bs where
 lt:=yaj f.lt k.size
 c0:=by rw[k.cell (p:=⟨P,0,none⟩) f.lt (λc=>Nat.lt_irrefl _ (aU _ c))];exact f.c0
 c1:=by rw[k.cell (p:=⟨P,1,none⟩) f.lt (λc=>Nat.lt_irrefl _ (aU _ c))];exact f.c1
 fz:=by rw[k.frozen (p:=⟨P,1,none⟩) f.lt (λc=>Nat.lt_irrefl _ (aU _ c))];exact f.fz
 hi:=f.hi
 small:=f.small
 ys:=⟨f.ys.len,f.ys.lt,f.ys.at_.imp id λ⟨g,off,e,h3,a6⟩=>⟨g,off,e,yaj h3 k.size,λj hj=>by rw[k.cell (p:=⟨g,off+j,none⟩) h3 (λc=>by have bK:P<g:=aU _ c;have:=f.ne xaa g off e;omega)];exact a6 j hj⟩⟩
 ne:=f.ne
theorem GrS.put{w W ay I P a n cap i bs a1 Z a3 Y c1 c2 aa c3 ins vs outs}(f:GrS W I P a n cap i bs w.heap.size (.slice a1 Y c1) (.slice Z vs.length c2) (.slice a3 aa c3) ins vs outs)(X:Kept P (P+1) w W)(k:Kept 0 0 W ay)(v)(aM:v.k<18446744073709551616)(hn:vs.length<=100000):
  Calls prog 37 #[eX a1 Y c1 Z vs.length c2 a3 aa c3,v.agg] ay λe aG=>∃aA cap',e=.returned (eX a1 Y c1 (some ⟨aA,0,none⟩) (vs.length+1) cap' a3 aa c3)/\RB aG (w.heap.size+1) iR iR iR/\GwO w I P a n cap i bs (.slice a1 Y c1) (.slice Z vs.length c2) (.slice a3 aa c3) ins vs outs (sv v) (.returned (eX a1 Y c1 (some ⟨aA,0,none⟩) (vs.length+1) cap' a3 aa c3)) (fF aG (w.heap.size+1) (.slice a1 Y c1) (hE aA (vs.length+1) cap') (.slice a3 aa c3)):=by
 have f1:=f.keep k;have G:=f.pb;have C:=f.bq;have b4:=f1.dg.sz;refine(rN ay a1 Z a3 Y c1 c2 aa c3 I vs v f1.dg.r2 b4 xaa).mono ?_;rintro e aG ⟨aA,cap',rfl,aU,ae⟩;have g:∀b,(Value.slice Z vs.length c2).ownBlock=some b->b<w.heap.size/\I<=b:=λb hb=>⟨f.far b (.inr (.inl hb)),(eI f1.dg.r2 hb).1⟩
 have t:(Value.slice Z vs.length c2).ownBlock=some aA\/ay.heap.size<=aA:=by
  exact xfl
 have F:w.heap.size+1<ay.heap.size:=f1.rs.sz
 have q:aA≠w.heap.size+1:=by
  rcases t with c|c
  ·have:=(g _ c).1;omega
  omega
 have af:∀o,aG.cell? ⟨w.heap.size+1,o,none⟩=ay.cell? ⟨w.heap.size+1,o,none⟩:=λo=>ae.chg.cell (p:=⟨w.heap.size+1,o,none⟩) F (by rintro (c|c);exact c;have bK:w.heap.size+1<w.heap.size:=(g _ c).1;omega);have a0:∀o,aG.frozen? ⟨w.heap.size+1,o,none⟩=ay.frozen? ⟨w.heap.size+1,o,none⟩:=λo=>ae.chg.frozen (p:=⟨w.heap.size+1,o,none⟩) F (by rintro (c|c);exact c;have bK:w.heap.size+1<w.heap.size:=(g _ c).1;omega);have l:=f1.rs;have K:=fh aG (w.heap.size+1) (.slice a1 Y c1) (hE aA (vs.length+1) cap') (.slice a3 aa c3);have j:∀{u:Value}{xs:List Value}{m e s:Nat},ay.ownsRow I e s u m xs->Apart (.slice Z vs.length c2) u->aG.ownsRow I e s u m xs:=λ{u xs m e s} o bJ=>fI o ae.chg (by rintro b hb (c|c);exact c;exact bJ b c hb);have h:∀{W:World}{u:Value}{xs:List Value}{m e s:Nat}{x y z:Value},W.ownsRow I e s u m xs->u.ownBlock≠some (w.heap.size+1)->(fF W (w.heap.size+1) x y z).ownsRow I e s u m xs:=λo am=>eJ (eJ (eJ o am) am) am;have p:Apart (.slice Z vs.length c2) (.slice a1 Y c1):=λb hb ak=>f.dg.a12 b ak hb;refine⟨aA,cap',rfl,⟨yaj F ae.chg.size,hR af l.q0,hR af l.q1,hR af l.q2,hR a0 l.f0,hR a0 l.f1,hR a0 l.f2⟩,v,aA,cap',rfl,rfl,⟨?_,?_,?_,?_,f.dg.a13,?_,?_,?_⟩,?_,?_,?_⟩
 ·exact h (j f1.dg.r1 p) (λc=>hO (f.far _ (.inl c)))
 ·have ah:(vs++[v]).length=vs.length+1:=by simp
  rw[ah];exact h aU (λc=>q (by simpa[Value.ownBlock] using c))
 ·exact h (j f1.dg.r3 f.dg.a23) (λc=>by have:=f.far _ (.inr (.inr c));omega)
 ·intro b hb ak;have:b=aA:=by simpa[Value.ownBlock] using ak.symm
  subst this;rcases t with c|c
  ·exact f.dg.a12 _ hb c
  have:=f.far _ (.inl hb);omega
 ·intro b hb ak;have:b=aA:=by simpa[Value.ownBlock] using hb.symm
  subst this;rcases t with c|c
  ·exact f.dg.a23 _ c ak
  have:=f.far _ (.inr (.inr ak));omega
 ·intro u aI;exact xej
 ·exact yan b4 (yan ae.chg.size K.size)
 ·have av:=rt f1.rd ae.chg (by rintro b (c|c);exact c.elim;have:=(g b c).2;omega);exact av.keep K (.inl (hO av.lt))
 ·have B:=yan X.size k.size;refine⟨K.os.trans (ae.chg.os.trans (k.os.trans X.os)),K.tape.trans (ae.chg.tape.trans (k.tape.trans X.tape)),K.output.trans (ae.chg.output.trans (k.output.trans X.output)),yan B (yan ae.chg.size K.size),λb hb hn=>?_⟩;refine(K.block b (hO ae.chg.size) xaa).trans ?_;rw[ae.chg.block b xaa (by rintro (c|c);exact c;exact hn (.inr c)),k.block b (hO X.size) xaa];exact X.block b hb (λc=>hn (.inl xaa))
 rcases t with c|c
 ·exact .inl c
 exact .inr (hQ X.size k.size)
theorem m.qad(h:Zp:=by
 obtain⟨g,b0,aU,aY,bj,bm⟩:=hH t.dg.r2 rfl h;cases aU;exact qei):Zp:=h
theorem m.qej(h:Zp:=by
 rcases aj.o with⟨al,rfl,rfl⟩|⟨al,rfl,rfl⟩|⟨al,rfl,rfl⟩
 all_goals
  clear aj
  first|(have af:(nv bs i:Int)%16=9:=by omega)|(have af:(nv bs i:Int)%16=11:=by omega)|(have af:(nv bs i:Int)%16=13:=by omega)
  clear al
  go_wp2_with fail
  obtain⟨_,a7,aK,aP,_,_,_⟩:=au.o.bx
  go_region_with (first|(go_at_call 37;refine yai (aL.o _ _ _ _ _ _ _ au.o HK.o _ ((eG _).trans aJ)) ?_;rintro e aG ⟨aA,cap',rfl,a8,aH⟩;obtain⟨_,bo,az,aZ,bl,bG,bP⟩:=a8)|(go_at_call 39;refine yai (gS _ _ _ _ _ _) ?_;rintro e aF ⟨rfl,aJ⟩;obtain⟨_,aW,aq,aN,_,_,_⟩:=(au.o.keep ((eG _).trans aJ)).bx))
  all_goals
   go_wp2_with fail
   obtain⟨bf,aO,aX⟩:=fg aG (w.heap.size+1) _ _ _ bo az aZ (.slice a1 Y c1) (hE aA (vs.length+1) cap') (.slice a3 aa c3)
   exact yay (v:=eX a1 Y c1 (some ⟨aA,0,none⟩) (vs.length+1) cap' a3 aa c3) (by simp[results,results41,go_sem,bf,aO,aX]) rfl aH):Zp:=h
open m in
theorem tH{a1 Z a3 Y c1 c2 aa c3}(f:DG w I (.slice a1 Y c1) (.slice Z vs.length c2) (.slice a3 aa c3) ins vs outs)(C:RdF w P a n cap i bs)(hP:P<I)(hn:vs.length<=100000)(ai:0<vs.length){m}(aw:(vd vs (nv bs (ni bs i)%vs.length)).len=m){o l}(O:(nv bs i%16=9/\o=6/\l=m)\/(nv bs i%16=11/\o=9/\l=1)\/(nv bs i%16=13/\o=13/\l=m)):
  Calls prog 41 #[eX a1 Y c1 Z vs.length c2 a3 aa c3,hD P] w (GwO w I P a n cap (ni bs (ni bs i)) bs (.slice a1 Y c1) (.slice Z vs.length c2) (.slice a3 aa c3) ins vs outs ⟨o,l,((nv bs (ni bs i)%vs.length:Nat):Int),0,0,0⟩):=by
 exact qac
end
section
open Go.RowKit Flt
theorem GrS.pick{W I P a n cap i bs Q a1 Z a3 Y c1 c2 aa c3 ins vs outs}(f:GrS W I P a n cap i bs Q (.slice a1 Y c1) (.slice Z vs.length c2) (.slice a3 aa c3) ins vs outs)(hn:vs.length<=100000)(q):
  Calls prog 66 #[eX a1 Y c1 Z vs.length c2 a3 aa c3,hF q,hD P] W λe W'=>e=.returned (hF (jU vs q (nv bs i)))/\GrS W' I P a n cap (ni bs i) bs Q (.slice a1 Y c1) (.slice Z vs.length c2) (.slice a3 aa c3) ins vs outs/\Kept P (P+1) W W':=
 (Pd f.dg.r2 rfl hn f.rd f.pb q).mono λ_ _ h=>⟨h.1,f.step h.2.1 h.2.2,h.2.2⟩
end
section
open Go.RowKit Flt
attribute[local go_sem] eF eE eD
variable{w:World}{I P n cap i Y c1 c2 aa c3:Nat}{a a1 Z a3:Option Addr}{bs ins outs:List Int}{vs:List Vl}{m:Int}
theorem n.qad(h:Zp:=by
 obtain⟨g,b0,aU,aY,bj,bm⟩:=hH t.dg.r2 rfl h;cases aU;exact qei):Zp:=h
theorem n.qej(h:Zp:=by
 rcases aj.o with al|al
 all_goals
  replace aj:V _:=al
  clear al
  first|(have af:(nv bs i:Int)%16=14:=hO aj.o)|(have af:(nv bs i:Int)%16=15:=hO aj.o)
  clear aj
  obtain⟨_,a7,aK,aP,_,_,_⟩:=au.o.bx
  go_wp2_with fail
  refine yai (au.o.pick hn _) ?_
  rintro e b8 ⟨rfl,x,b7⟩
  replace HK:V _:=HK.o.trans b7
  replace au:V _:=x
  clear x b7 a7 aK aP aR
  go_wp2_with fail
  refine yai au.o.next ?_
  rintro e cf ⟨rfl,v,bW⟩
  replace HK:V _:=HK.o.trans bW
  replace au:V _:=v
  clear v bW
  go_wp2_with fail
  obtain⟨_,a7,aK,aP,_,_,_⟩:=au.o.bx
  go_region_with (first|(go_at_call 37;refine yai (aL.o _ _ _ _ _ _ _ au.o HK.o _ ((eG _).trans aJ)) ?_;rintro e aG ⟨aA,cap',rfl,a8,aH⟩;obtain⟨_,bo,az,aZ,bl,bG,bP⟩:=a8)|(go_at_call 39;refine yai (gS _ _ _ _ _ _) ?_;rintro e aF ⟨rfl,aJ⟩;obtain⟨_,aW,aq,aN,_,_,_⟩:=(au.o.keep ((eG _).trans aJ)).bx))
  all_goals
   go_wp2_with fail
   obtain⟨bf,aO,aX⟩:=fg aG (w.heap.size+1) _ _ _ bo az aZ (.slice a1 Y c1) (hE aA (vs.length+1) cap') (.slice a3 aa c3)
   exact yay (v:=eX a1 Y c1 (some ⟨aA,0,none⟩) (vs.length+1) cap' a3 aa c3) (by simp[results,results41,go_sem,bf,aO,aX]) rfl aH):Zp:=h
open n in
theorem De(f:DG w I (.slice a1 Y c1) (.slice Z vs.length c2) (.slice a3 aa c3) ins vs outs)(C:RdF w P a n cap i bs)(hP:P<I)(hn:vs.length<=100000)(ai:0<vs.length)(aw:(vd vs (nv bs (ni bs i)%vs.length)).len=m)(hb:jU vs 1 (nv bs (ni bs (ni bs i)))<0)(O:nv bs i%16=14\/nv bs i%16=15):
  Calls prog 41 #[eX a1 Y c1 Z vs.length c2 a3 aa c3,hD P] w (GwO w I P a n cap ((ni bs (ni bs (ni bs (ni bs i))))) bs (.slice a1 Y c1) (.slice Z vs.length c2) (.slice a3 aa c3) ins vs outs ⟨9,1,((nv bs (ni bs i)%vs.length:Nat):Int),0,0,0⟩):=by
 have K:=fU C.ys (ni bs (ni bs (ni bs i)));exact qac
theorem o.qad(h:Zp:=by
 obtain⟨g,b0,aU,aY,bj,bm⟩:=hH t.dg.r2 rfl h;cases aU;exact qdz):Zp:=h
theorem o.qea(h:Zp:=by
 exact xcg):Zp:=h
theorem o.qgb(h:Zp:=by
 generalize 1+nv bs (ni bs (ni bs (ni bs i)))%4=d at l⊢;have cX:V _:=l;clear l;exact qac):Zp:=h
open o in
theorem Df(f:DG w I (.slice a1 Y c1) (.slice Z vs.length c2) (.slice a3 aa c3) ins vs outs)(C:RdF w P a n cap i bs)(hP:P<I)(hn:vs.length<=100000)(ai:0<vs.length)(aw:(vd vs (nv bs (ni bs i)%vs.length)).len=m)(hb:0<=jU vs 1 (nv bs (ni bs (ni bs i))))(O:nv bs i%16=14):
  Calls prog 41 #[eX a1 Y c1 Z vs.length c2 a3 aa c3,hD P] w (GwO w I P a n cap ((ni bs (ni bs (ni bs (ni bs i))))) bs (.slice a1 Y c1) (.slice Z vs.length c2) (.slice a3 aa c3) ins vs outs ⟨10,((1+nv bs (ni bs (ni bs (ni bs i)))%4:Nat):Int),jU vs 1 (nv bs (ni bs (ni bs i))),0,0,0⟩):=by
 exact qga
theorem p.qad(h:Zp:=by
 obtain⟨g,b0,aU,aY,bj,bm⟩:=hH t.dg.r2 rfl h;cases aU;exact qdz):Zp:=h
theorem p.qea(h:Zp:=by
 exact xbr):Zp:=h
theorem p.qgb(h:Zp:=by
 have hd0:0<1+nv bs (ni bs (ni bs (ni bs i)))%4/\1+nv bs (ni bs (ni bs (ni bs i)))%4<=4:=xaa;generalize 1+nv bs (ni bs (ni bs (ni bs i)))%4=d at l hd0⊢;have ak:(nv bs (ni bs (ni bs (ni bs (ni bs i)))):Int)%(d:Int)=((nv bs (ni bs (ni bs (ni bs (ni bs i))))%d:Nat):Int):=by rw[Int.natCast_emod]
 have y:nv bs (ni bs (ni bs (ni bs (ni bs i))))%d<d:=Nat.mod_lt _ hd0.1;have cc:=fU C.ys (ni bs (ni bs (ni bs (ni bs i))));generalize nv bs (ni bs (ni bs (ni bs (ni bs i))))%d=c at ak y⊢;have bg:V ((nv bs (ni bs (ni bs (ni bs (ni bs i)))):Int).tmod (d:Int)=c):=(Int.tmod_eq_emod_of_nonneg xaa).trans ak;have cX:V _:=l;clear l ak;exact qac):Zp:=h
open p in
theorem Gj(f:DG w I (.slice a1 Y c1) (.slice Z vs.length c2) (.slice a3 aa c3) ins vs outs)(C:RdF w P a n cap i bs)(hP:P<I)(hn:vs.length<=100000)(ai:0<vs.length)(aw:(vd vs (nv bs (ni bs i)%vs.length)).len=m)(hb:0<=jU vs 1 (nv bs (ni bs (ni bs i))))(O:nv bs i%16=15):
  Calls prog 41 #[eX a1 Y c1 Z vs.length c2 a3 aa c3,hD P] w (GwO w I P a n cap (ni bs (ni bs (ni bs (ni bs (ni bs i))))) bs (.slice a1 Y c1) (.slice Z vs.length c2) (.slice a3 aa c3) ins vs outs ⟨12,((1+nv bs (ni bs (ni bs (ni bs i)))%4:Nat):Int),jU vs 1 (nv bs (ni bs (ni bs i))),0,((nv bs (ni bs (ni bs (ni bs (ni bs i))))%(1+nv bs (ni bs (ni bs (ni bs i)))%4):Nat):Int),0⟩):=by
 exact qga
end
section
open Go.RowKit Flt Ieee
variable{us r:List Vl}
theorem Nx{q}(h:q<us.length):vd (us++r) q=vd us q:=by
 unfold vd;exact xjc
theorem Ny(q):vd (us++r) (us.length+q)=vd r q:=by
 unfold vd;rw[yah,yar xaa,Nat.add_sub_cancel_left,<-yah]
