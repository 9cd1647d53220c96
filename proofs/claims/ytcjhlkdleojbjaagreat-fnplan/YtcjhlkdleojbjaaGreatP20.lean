import Derived.Test.YtcjhlkdleojbjaaGreatP17
import Derived.Test.YtcjhlkdleojbjaaGreatP10
import Derived.Test.YtcjhlkdleojbjaaGreatP12
namespace Go.Proofs.Z
open Tryz Go.RowKit Flt
set_option maxRecDepth 1000000
set_option maxHeartbeats 0
section
attribute[local go_sem] eF eE eD
variable{w B:World}{g n k:Nat}{a:Option Addr}{xs:List Nat}{au bH:Nat->Nat}{r:List (List Nat)}
structure FO(w:World)(g n:Nat)(xs:List Nat):Prop where
 len:xs.length=n
 bnd:∀x∈xs,x<18446744073709551616
 lt:g<w.heap.size
 at_:∀k,k<n->w.cell? ⟨g,k,none⟩=some (.float .f64 (xs.getD k 0))
 free:∀o,w.frozen? ⟨g,o,none⟩=false
theorem FO.keep{l h}(f:FO w g n xs)(k:Kept l h w B)(aK:g<l\/h<=g\/h<=l):FO B g n xs:=
 ⟨f.len,f.bnd,yak f.lt k.size,λj hj=>by rw[k.cell (p:=⟨g,j,none⟩) f.lt (by grind)];exact f.at_ j hj,λo=>by rw[k.frozen (p:=⟨g,o,none⟩) f.lt (by grind)];exact f.free o⟩
theorem FO.fs(f:FO w g n xs):FS w 0 w.heap.size (some ⟨g,0,none⟩) n xs:=
 ⟨f.len,f.bnd,.inr ⟨g,0,rfl,yae,f.lt,f.lt,λk O=>by rw[Nat.zero_add];exact f.at_ k O⟩⟩
structure SS(w:World)(a:Option Addr)(n:Nat)(xss:List (List Nat)):Prop where
 len:xss.length=n
 at_:n=0\/∃g off,a=some ⟨g,off,none⟩/\g<w.heap.size/\∀k,k<n->∃b c,w.cell? ⟨g,off+k,none⟩=some (.slice b (xss.getD k []).length c)/\(xss.getD k []).length<=c/\FS w 0 w.heap.size b (xss.getD k []).length (xss.getD k [])
theorem FS.keep0(f:FS w 0 w.heap.size a n xs)(k:Kept 0 0 w B):FS B 0 B.heap.size a n xs:=
 (f.keep k yaa).mono yad k.size
theorem SS.keep(f:SS w a n r)(k:Kept 0 0 w B):SS B a n r:=
 ⟨f.len,by
  rcases f.at_ with al|⟨g,off,e,F,N⟩
  ·exact .inl al
  ·refine .inr ⟨g,off,e,yak F k.size,λj hj=>?_⟩
   obtain⟨b,c,aq,aN,be⟩:=N j hj
   exact⟨b,c,iD k F aq,aN,be.keep0 k⟩⟩
structure SP(w:World)(g n k:Nat)(gf cf:Nat->Nat)(xss:List (List Nat)):Prop where
 lt:g<w.heap.size
 free:∀o,w.frozen? ⟨g,o,none⟩=false
 cell:∀j,j<k->w.cell? ⟨g,j,none⟩=some (.slice (some ⟨gf j,0,none⟩) (xss.getD j []).length (cf j))
 rest:∀j,j<n->∃u,w.cell? ⟨g,j,none⟩=some u
 cap:∀j,j<k->(xss.getD j []).length<=cf j
 own:∀j,j<k->FO w (gf j) (xss.getD j []).length (xss.getD j [])
 up:∀j,j<k->g<gf j
 inc:∀i j,i<j->j<k->gf i<gf j
theorem SP.keep(f:SP w g n k au bH r)(q:Kept 0 0 w B):SP B g n k au bH r:=
 ⟨yak f.lt q.size,λo=>by rw[q.frozen (p:=⟨g,o,none⟩) f.lt xaa];exact f.free o,λj hj=>iD q f.lt (f.cell j hj),λj hj=>(f.rest j hj).imp λ_ h=>iD q f.lt h,f.cap,λj hj=>(f.own j hj).keep q yaa,f.up,f.inc⟩
def upd(f:Nat->Nat)(k x:Nat):Nat->Nat:=λj=>if j=k then x else f j
theorem mN(f k x):upd f k x k=x:=hD rfl
theorem jV{f x j}(h:j≠k):upd f k x j=f j:=hC h
theorem SP.step(f:SP w g n k au bH r)(O:k<n)(q:Kept 0 0 w B){G c}
  (ho:FO B G (r.getD k []).length (r.getD k [])) (bg:w.heap.size<=G) (ah:(r.getD k []).length<=c):
  SP (B.setCell ⟨g,k,none⟩ (hz G (r.getD k []).length c)) g n (k+1) (upd au k G) (upd bH k c) r:=by
 have Q:=f.keep q;have ak:=f.lt;have bA:∀v,Kept g (g+1) B (B.setCell ⟨g,k,none⟩ v):=λv=>eR B ⟨g,k,none⟩ v yac;obtain⟨u,aB⟩:=Q.rest k O;refine⟨by simpa using Q.lt,λo=>by simp[Q.free o],λj hj=>?_,λj hj=>?_,λj hj=>?_,λj hj=>?_,λj hj=>?_,λi j eL hj=>?_⟩
 ·by_cases e:j=k
  ·subst e;rw[mN,mN];exact fy _ _ _ _ _ aB
  rw[jV e,jV e,eQ _ _ _ _ _ _ (.inr (Ne.symm e))];exact Q.cell j xaa
 ·by_cases e:j=k
  ·subst e;exact⟨_,fy _ _ _ _ _ aB⟩
  rw[eQ _ _ _ _ _ _ (.inr (Ne.symm e))];exact Q.rest j hj
 ·by_cases e:j=k
  ·subst e;rw[mN];exact ah
  rw[jV e];exact f.cap j xaa
 ·by_cases e:j=k
  ·subst e;rw[mN];exact ho.keep (bA _) xaa
  rw[jV e];exact(Q.own j xaa).keep (bA _) (hJ (f.up j xaa))
 ·by_cases e:j=k
  ·subst e;rw[mN];omega
  rw[jV e];exact f.up j xaa
 by_cases e:j=k
 ·subst e;rw[mN,jV xaa];have:=(f.own i xaa).lt;omega
 rw[jV e,jV xaa];exact f.inc i j eL xaa
theorem SP.ss(f:SP w g n n au bH r)(af:r.length=n):SS w (some ⟨g,0,none⟩) n r:=
 ⟨af,.inr ⟨g,0,rfl,f.lt,λk O=>⟨_,_,by rw[Nat.zero_add];exact f.cell k O,f.cap k O,(f.own k O).fs⟩⟩⟩
theorem Co:(prog.info? 55).map (λi=>(i.zero,i.size,i.bytes))=some (some (.slice none 0 0),1,24):=by kernel_rfl
theorem NW(n:Nat)(w)(ad:n<=1099511627776):
  (Instr.makeSlice 36 (hA n) (hA n)).run prog w=.ok (hz w.heap.size n n) (w.alloc (.cells (madeCells #[.slice none 0 0] n) 55)):=by
 obtain⟨i,hi,b4,b3,b0⟩:=info_parts Co;have:=run_make (P:=prog) w 36 55 i (.slice none 0 0) underlying36 hi b4 .i64 .i64 n n xaa xaa (by grind) xaa;exact qbr
theorem SP.made(w:World)(n au bH r):SP (w.alloc (.cells (madeCells #[.slice none 0 0] n) 55)) w.heap.size n 0 au bH r where
 lt:=by simp
 free:=λo=>by simp
 cell:=λj hj=>absurd hj (Nat.not_lt_zero _)
 rest:=λj hj=>by
  simp_all[madeCells]
 cap:=λj hj=>absurd hj (Nat.not_lt_zero _)
 own:=λj hj=>absurd hj (Nat.not_lt_zero _)
 up:=λj hj=>absurd hj (Nat.not_lt_zero _)
 inc:=λi j _ hj=>absurd hj (Nat.not_lt_zero _)
end
section
variable{x y H K R:Nat}{xs bJ P Q X f m S:List Nat}{op len C:Int}
theorem vz(an:x<18446744073709551616)(bN:y<18446744073709551616)(h:fb x=fb y):fb (Op.negFloat .f64 x)=fb (Op.negFloat .f64 y):=by
 rcases mC h with rfl|⟨a,b⟩
 ·rfl
 have aB:∀z,z<18446744073709551616->(f64.read z).isNaN=true->(f64.read (Op.negFloat _ z)).isNaN=true:=λz bv ad=>by
  obtain⟨s,r,aD,rfl⟩:=mT z bv
  rw[MK s aD]
  rcases Nat.lt_or_ge 9218868437227405312 r with c|c
  ·rw[show f64.read _=_ from pT c aD];rfl
  ·have:=pU (s:=s) c
   rw[wn,ad]at this
   cases this
 exact uU (aB x an a) (aB y bN b)
theorem uR(h:fb x=fb H)(h':fb y=fb R):fb (jF x y)=fb (jF H R):=by
 have e:FloatKind.f64.format.order x y=FloatKind.f64.format.order _ _:=jR h h';unfold jF;rw[e];split
 ·exact h
 exact h'
theorem xH{z j}(h:fb x=fb H)(h':fb y=fb R)(g:fb z=fb j):fb (io x y z)=fb (io H R j):=by
 have e:FloatKind.f64.format.order x 0=FloatKind.f64.format.order _ 0:=jR h rfl;unfold io;rw[e];split
 ·exact h'
 exact g
theorem Ea(h:fb x=fb y):fb (rW x)=fb (rW y):=by
 have ae:FloatKind.f64.format.order x x=FloatKind.f64.format.order y y:=jR h h;have a9:FloatKind.f64.format.order x 4652007308841189376=FloatKind.f64.format.order y _:=jR h rfl;have ai:FloatKind.f64.format.order x 13875379345695965184=FloatKind.f64.format.order y _:=jR h rfl;unfold rW;rw[ae,a9,ai,gG _ h rfl];split
 ·exact h
 rfl
theorem Bn(h:gC xs bJ)(al:0<xs.length):fb (kX xs)=fb (kX bJ):=by
 have af:=i7 h
 have aB:∀k,0<k->k<=xs.length->fb (kX (xs.take k))=fb (kX (bJ.take k)):=λk=>by
  induction k with
  |zero=>intro c;omega
  |succ k G=>
   intro _ O
   rcases Nat.eq_zero_or_pos k with c|c
   ·subst c
    rw[pW _ al,pW _ xaa]
    exact gQ h 0
   ·rw[oN _ k c xaa,oN _ k c xaa,gG _ (G c xaa) (gQ h k)]
 have:=aB _ al yad;rw[yap yad,yap xaa]at this;exact this
theorem Kp{l bf Y}(h:i8 op len C l bf Y=true)(aP:op=9):0<l:=by
 subst aP;simp[i8,eV,cnt,lenB]at h;omega
theorem Bo{k}(ar:gC P f)(hb:gC Q m)(ah:gC X S)(l:∀x∈P,x<18446744073709551616)(g:∀x∈f,x<18446744073709551616)(aP:op=9->0<P.length):
  fb (gD op C K P Q X k)=fb (gD op C K f m S k):=by
 unfold gD;by_cases c:op=1
 ·rw[hD c,hD c]
 rw[hC c,hC c];clear c;by_cases c:op=2
 ·exact xen
 rw[hC c,hC c];clear c;by_cases c:op=3
 ·exact xen
 rw[hC c,hC c];clear c;by_cases c:op=4
 ·exact xen
 rw[hC c,hC c];clear c;by_cases c:op=5
 ·exact xen
 rw[hC c,hC c];clear c;by_cases c:op=6
 ·rw[hD c,hD c];exact vz (gI l k) (gI g k) (gQ ar k)
 rw[hC c,hC c];clear c;by_cases c:op=7
 ·rw[hD c,hD c];exact uR (gQ ar k) (gQ hb k)
 rw[hC c,hC c];clear c;by_cases c:op=8
 ·rw[hD c,hD c];exact xH (gQ ar k) (gQ hb k) (gQ ah k)
 rw[hC c,hC c];clear c;by_cases c:op=9
 ·rw[hD c,hD c];exact Bn ar (aP c)
 rw[hC c,hC c];clear c;by_cases c:op=10
 ·rw[hD c,hD c];exact gQ ar 0
 rw[hC c,hC c];clear c;by_cases c:op=11
 ·rw[hD c,hD c];exact gQ ar _
 rw[hC c,hC c];clear c;by_cases c:op=12
 ·rw[hD c,hD c];by_cases d:k=C.toNat
  ·rw[hD d,hD d];exact gQ ar 0
  rw[hC d,hC d]
 rw[hC c,hC c];exact Ea (gQ ar k)
theorem m9(ar:gC P f)(hb:gC Q m)(ah:gC X S)(l:∀x∈P,x<18446744073709551616)(g:∀x∈f,x<18446744073709551616):
  gC (iL op len C K P Q X) (iL op len C K f m S):=by
 unfold iL;rw[<-i7 ar,<-i7 hb,<-i7 ah];cases a5:i8 op len C P.length Q.length X.length
 ·rfl
 rw[hD rfl,hD rfl];refine so xac λk O=>?_;have u:k<len.toNat:=by simpa using O
 have e:=Bo (C:=C) (K:=K) (k:=k) ar hb ah l g (λaP=>Kp a5 aP);simpa[List.getD_eq_getElem?_getD,u] using e
theorem jP{zs}(h:gC xs bJ)(h':gC bJ zs):gC xs zs:=Eq.trans h h'
theorem vA(h:gC xs bJ):gC bJ xs:=Eq.symm h
def one(xss:List (List Nat))(v:Vl)(Vs:List (List Nat)):List Nat:=
 if v.op=0 then xss.getD v.a.toNat [] else
  iL v.op v.len v.c v.k (if 0<cnt v.op then Vs.getD v.a.toNat [] else[]) (if 1<cnt v.op then Vs.getD v.b.toNat [] else[]) (if 2<cnt v.op then Vs.getD v.c.toNat [] else[])
def fV(xss:List (List Nat))(vs:List Vl):Nat->List (List Nat)
 |0=>[]
 |i+1=>fV xss vs i++[one xss (vs.getD i hF) (fV xss vs i)]
theorem jQ(r vs):∀i,(fV r vs i).length=i
 |0=>rfl
 |i+1=>by rw[fV,yal,jQ _ _ i];rfl
theorem lI(r vs){i j}(h:j<i):(fV r vs (i+1)).getD j []=(fV r vs i).getD j []:=by
 rw[fV,yai,yat (by rw[jQ];exact h),<-yai]
theorem oW(r vs i):(fV r vs (i+1)).getD i []=one r (vs.getD i hF) (fV r vs i):=by
 rw[fV,yai,yas (by rw[jQ];exact yad),jQ,Nat.sub_self];rfl
def inB(ins:List Int)(xss:List (List Nat)):Bool:=decide (xss.length=ins.length)&&(List.range ins.length).all λi=>((xss.getD i []).length:Int)==ins.getD i 0
theorem zD(h:i8 op len C P.length Q.length X.length=true):(iL op len C K P Q X).length=len.toNat:=by
 unfold iL;rw[hD h];simp
theorem oz{ins vs r}(hi:inB ins r=true):∀i,(List.range i).all (okV ins vs)=true->∀j,j<i->(((fV r vs i).getD j []).length:Int)=(vs.getD j hF).len
 |0,_,j,hj=>by omega
 |i+1,h,j,hj=>by
  have aD:(List.range i).all (okV ins vs)=true:=by rw[List.range_succ,List.all_append]at h;rw[Bool.and_eq_true]at h;exact h.1
  have G:=oz hi i aD
  by_cases e:j<i
  ·rw[lI _ _ e];exact G j e
  ·have:j=i:=xaa
   subst this
   rw[oW]
   have ho:=List.all_eq_true.1 h j (List.mem_range.2 yaf)
   have ca:=fU ho
   unfold okV at ho
   generalize vs.getD j _=v at ho ca⊢
   rw[Bool.and_eq_true,Bool.and_eq_true]at ho
   obtain⟨⟨F,N⟩,h3⟩:=ho
   unfold one
   by_cases al:v.op=0
   ·rw[hD al]at h3⊢
    rw[Bool.and_eq_true]at h3
    have ar:=of_decide_eq_true h3.1
    unfold inB at hi
    rw[Bool.and_eq_true]at hi
    have an:=List.all_eq_true.1 hi.2 v.a.toNat (List.mem_range.2 xaa)
    rw[beq_iff_eq.1 an]
    exact(beq_iff_eq.1 h3.2).symm
   ·rw[hC al]at h3⊢
    rw[Bool.and_eq_true]at h3
    have ap:=h3.1
    have au:=h3.2
    have ah:=fI v.op
    have aB:∀o,fR o j=true->(((fV _ _ j).getD _ _).length:Int)=(vs.getD o.toNat _).len:=λo ho=>by
     have:=of_decide_eq_true ho
     exact G _ xaa
    rw[zD]
    ·omega
    ·unfold i8
     rw[F,Bool.true_and]
     unfold fe at ap au
     rcases (by omega:cnt v.op=0\/cnt v.op=1\/cnt v.op=2\/cnt v.op=3) with e|e|e|e
     ·rw[e]at au⊢;exact au
     ·rw[e]at ap au⊢
      simp only[List.take_succ_cons,List.take_zero,List.all_cons,List.all_nil,Bool.and_true,List.map_cons,List.map_nil]at ap au⊢
      rw[hD xaa,aB _ ap]
      exact au
     ·rw[e]at ap au⊢
      simp only[List.take_succ_cons,List.take_zero,List.all_cons,List.all_nil,Bool.and_true,Bool.and_eq_true,List.map_cons,List.map_nil]at ap au⊢
      rw[hD xaa,hD xaa,aB _ ap.1,aB _ ap.2]
      exact au
     ·rw[e]at ap au⊢
      simp only[List.take_succ_cons,List.take_zero,List.all_cons,List.all_nil,Bool.and_true,Bool.and_eq_true,List.map_cons,List.map_nil]at ap au⊢
      rw[hD xaa,hD xaa,hD xaa,aB _ ap.1,aB _ ap.2.1,aB _ ap.2.2]
      exact au
end
section
attribute[local go_sem] eF eE eD
variable{w:World}{v:Value}{xs P Q X:List Nat}
theorem Eb(w lo hi a b n m bh cb ins r)(f:IS w lo hi a n ins)(g:SS w b m r)(ad:n<=1099511627776):
  Calls prog 36 #[.slice a n bh,.slice b m cb] w λe B=>e=.returned (.bool (inB ins r))/\Drawn w B:=by
 have HF:E _:=f;have be:E _:=g;have HL:E (ins.length=n/\r.length=m):=⟨f.len,g.len⟩
 clear f g;by_cases R:m=n
 ·subst R;go_enter func36,ntmps36;go_wp2_with fail;go_loop [14] (λi=>∃k:Nat,k<=m/\i=hA k/\E ((List.range k).all (λi=>((r.getD i []).length:Int)==ins.getD i 0)=true)) (λi=>m-(intOf i).toNat)
  case atStart=>exact⟨0,yae,rfl,rfl⟩
  case round=>
   obtain⟨k,O,rfl,a2⟩:=hrel;by_cases aG:k<m
   ·rcases HF.o.at_ with bD|⟨az,bv,b5,aQ,a8,bi,bk⟩
    ·omega
    rcases be.o.at_ with bD|⟨bX,bU,bY,aP,y2⟩
    ·omega
    have c1:=bk k aG;obtain⟨aS,u,c2,_,_⟩:=y2 k aG;subst b5 bY;clear aQ a8 bi bk aP y2;cases an:(((r.getD k []).length:Int)==ins.getD k 0)
    ·have H:E (inB ins r=false):=by
      show inB ins r=false;unfold inB;rw[HL.o.1,kz (p:=λi=>((r.getD i []).length:Int)==ins.getD i 0) aG an,Bool.and_false]
     have aj:(((r.getD k []).length:Int) !=ins.getD k 0)=true:=by rw[bne,an];rfl
     generalize (r.getD k []).length=y at c2 aj;generalize ins.getD k 0=x at c1 aj;clear an a2;go_wp2;go_ret;exact⟨hO H.o,Drawn.refl _⟩
    have H:E _:=jh (p:=λi=>((r.getD i []).length:Int)==ins.getD i 0) a2.o an;have aj:(((r.getD k []).length:Int) !=ins.getD k 0)=false:=by rw[bne,an];rfl
    generalize (r.getD k []).length=y at c2 aj;generalize ins.getD k 0=x at c1 aj;exact xgr
   have H:E (inB ins r=true):=by
    exact xgf
   clear a2;go_wp2;go_ret;exact⟨hO H.o,Drawn.refl _⟩
 have e:inB ins r=false:=by
  exact xiq
 rw[e];have t:((m:Int) !=(n:Int))=true:=by simp;omega
 go_enter func36,ntmps36;go_wp2;go_ret;exact⟨rfl,Drawn.refl _⟩
theorem FO.of_own{W base n}(h:W.ownsRow base 57 1 v n (xs.map (Value.float .f64)))(ad:0<n)(af:xs.length=n)(hb:∀x∈xs,x<18446744073709551616):
  ∃g cap,v=hz g n cap/\base<=g/\n<=cap/\FO W g n xs:=by
 rcases h.2 with⟨_,c⟩|⟨g,cap,av,rfl,R,aS,aa,_,b7,ba⟩
 ·omega
 have aJ:g<W.heap.size:=by grind
 refine⟨g,_,rfl,R,aa,af,hb,aJ,λj hj=>?_,λo=>frozen_of_row W g o _ _ aS⟩;rw[cell_of_row W g _ _ _ _ aS,<-Array.getElem?_toList];have:(av.toList.take (n*1))[j]? =(xs.map (Value.float .f64))[j]?:=by rw[ba]
 grind
theorem sB{g off n}(an:xs.length=n)(ah:∀k,k<n->w.cell? ⟨g,off+k,none⟩=some (.float .f64 (xs.getD k 0))):
  ∀j u,(xs.map (Value.float .f64))[j]? =some u->w.cell? ((⟨g,off,none⟩:Addr).add j)=some u:=λj u aB=>by
 have hj:j<n:=by grind
 have F:=ah j hj
 have e:(⟨g,off,none⟩:Addr).add j=⟨g,off+j,none⟩:=by grind[Addr.add]
 simp_all
theorem PG(w g off n c xs)(ad:1<=n)(be:n<=1000000)(aJ:g<w.heap.size)(an:xs.length=n)(aG:∀x∈xs,x<18446744073709551616)(ah:∀k,k<n->w.cell? ⟨g,off+k,none⟩=some (.float .f64 (xs.getD k 0))):
  Calls prog 37 #[.slice (some ⟨g,off,none⟩) n c] w λe B=>∃G cap,e=.returned (hz G n cap)/\n<=cap/\FO B G n xs/\w.heap.size<=G/\Kept 0 0 w B:=by
 obtain⟨bW,hi,b4,b3,b0⟩:=info_parts yx
 have z:(binOp .eql 55 (.slice (some ⟨g,off,none⟩) n c) (.slice none 0 0)).run prog w=.ok (.bool false) w:=by
  simp only[binOp];simp[run_equal_slice_nil w 55 57 (some ⟨g,off,none⟩) n c underlying55]
 have bh:=ez 0 0 w (.cells #[] 57);have bm:E _:=sB (w:=w.alloc (.cells #[] 57)) (g:=g) (off:=off) an (λk O=>iD bh aJ (ah k O));have HO:E _:=World.ownsRow_made (base:=w.heap.size) (e:=57) (size:=1) w #[] 0 yad xaa rfl;have ae:E _:=bh;have ar:E (xs.length=n):=an;have y:E _:=aG;clear ah an aG bh;go_enter func37,ntmps37;go_wp2_with (first|(at_builtin;refine wpList_append_own _ rfl _ _ 55 rfl w.heap.size 57 bW (.float .f64 0) 1 8 underlying55 hi b4 b3 b0 rfl xab _ _ _ rfl HO.o ⟨g,off,none⟩ n c (xs.map (Value.float .f64)) rfl ?c0 bm.o ?c2 ?c3 ?c4 ?c5 ?_))
 case c0=>exact ar.o
 case c2=>intro u aB;rfl
 case c3=>unfold maxLen;omega
 case c4=>omega
 intro v' bj bF aW _;obtain⟨G,cap,rfl,R,aS,aa⟩:=FO.of_own bF xaa ar.o y.o;have H:E _:=gm (base:=w.heap.size) aW (λk O=>by have:w.heap.size=k:=(by simpa[Value.ownBlock] using O);omega) ae.o yad;clear bF aW;go_wp2;go_ret;exact⟨G,cap,rfl,aS,aa,R,H.o⟩
def Cl(w:World)(v:Value)(xs:List Nat):Prop:=∃b n c zs,v=.slice b n c/\n<=c/\FS w 0 w.heap.size b n zs/\gC zs xs
theorem Cl.keep{B}(h:Cl w v xs)(k:Kept 0 0 w B):Cl B v xs:=by
 obtain⟨b,n,c,zs,F,N,h3,a6⟩:=h;exact⟨b,n,c,_,F,N,h3.keep0 k,a6⟩
theorem Cl.nil(w):Cl w (.slice none 0 0) []:=⟨none,0,0,[],rfl,yad,⟨rfl,by simp,.inl rfl⟩,rfl⟩
def Cn(w:World)(lo:Nat)(v:Value)(xs:List Nat):Prop:=∃b n c zs,v=.slice b n c/\n<=c/\FS w lo w.heap.size b n zs/\gC zs xs
theorem Cn.cl{lo}(h:Cn w lo v xs):Cl w v xs:=by
 obtain⟨b,n,c,zs,F,N,h3,a6⟩:=h;exact⟨b,n,c,_,F,N,h3.mono yae yad,a6⟩
theorem zE(w)(v:Vl)(aI:v.k<18446744073709551616)(x y z P Q X)(ar:Cl w x P)(hb:Cl w y Q)(ah:Cl w z X)(l:∀q∈P,q<18446744073709551616):
  Calls prog 164 #[v.agg,x,y,z] w λe B=>∃u,e=.returned u/\Cn B w.heap.size u (iL v.op v.len v.c v.k P Q X)/\Kept 0 0 w B:=by
 obtain⟨a,f,bh,g,rfl,a1,U,a3⟩:=ar;obtain⟨b,G,cb,Y,rfl,R,aS,aa⟩:=hb;obtain⟨c,bu,bV,h,rfl,c1,c2,c3⟩:=ah;refine(zd w v.op v.len v.a v.b v.c v.k aI U aS c2 a1).mono ?_;rintro e B ⟨ag,n,cap,zs,rfl,ho,au,O,ad⟩;exact⟨_,rfl,⟨ag,n,cap,zs,rfl,ad,ho.fs,jP au (m9 a3 aa c3 U.lt l)⟩,O⟩
theorem zG(w)(v:Vl)(aI:v.k<18446744073709551616)(x y z P Q X)(ar:Cl w x P)(hb:Cl w y Q)(ah:Cl w z X)(l:∀q∈P,q<18446744073709551616):
  Calls prog 54 #[v.agg,x,y,z] w λe B=>∃u,e=.returned u/\Cn B w.heap.size u (iL v.op v.len v.c v.k P Q X)/\Kept 0 0 w B:=by
 obtain⟨a,f,bh,g,rfl,a1,U,a3⟩:=ar;obtain⟨b,G,cb,Y,rfl,R,aS,aa⟩:=hb;obtain⟨c,bu,bV,h,rfl,c1,c2,c3⟩:=ah;refine(ze w v.op v.len v.a v.b v.c v.k aI U aS c2 a1).mono ?_;rintro e B ⟨ag,n,cap,zs,rfl,ho,au,O,ad⟩;exact⟨_,rfl,⟨ag,n,cap,zs,rfl,ad,ho,jP au (m9 a3 aa c3 U.lt l)⟩,O⟩
theorem kM(op x y):cop op x y<18446744073709551616:=by
 unfold cop;cases h:floatBits op .f64 x y with
 |none=>decide
 |some r=>
  have:=floatBits_wf h;simpa[Lit.wf] using this
theorem Kq{x}(an:x<18446744073709551616):rW x<18446744073709551616:=by
 unfold rW;split
 ·exact an
 split
 ·decide
 split
 ·decide
 exact kM _ _ _
theorem Cp:∀(xs:List Nat) (x:Nat),x<18446744073709551616->xs.foldl (cop .add) x<18446744073709551616
 |[],_,h=>h
 |y::bJ,x,_=>Cp bJ (cop .add x y) (kM _ _ _)
theorem Kr(h:∀x∈xs,x<18446744073709551616):kX xs<18446744073709551616:=by
 cases xs with
 |nil=>decide
 |cons x r=>exact Cp r x (h x xac)
theorem lU{p}[Decidable p]{x y}(an:x<18446744073709551616)(bN:y<18446744073709551616):(if p then x else y)<18446744073709551616:=by
 grind
theorem Ks{op C K}(aI:K<18446744073709551616)(ar:∀x∈P,x<18446744073709551616)(hb:∀x∈Q,x<18446744073709551616)(ah:∀x∈X,x<18446744073709551616)(k):gD op C K P Q X k<18446744073709551616:=by
 have b0:=gI ar;have bE:=gI hb;have c0:=gI ah;unfold gD jF io;exact lU aI (lU (kM _ _ _) (lU (kM _ _ _) (lU (kM _ _ _) (lU (kM _ _ _) (lU (mW (b0 _)) (lU (lU (b0 _) (bE _)) (lU (lU (bE _) (c0 _)) (lU (Kr ar) (lU (b0 _) (lU (b0 _) (lU (lU (b0 _) xab) (Kq (b0 _)))))))))))))
theorem Cq{op len C K}(aI:K<18446744073709551616)(ar:∀x∈P,x<18446744073709551616)(hb:∀x∈Q,x<18446744073709551616)(ah:∀x∈X,x<18446744073709551616):∀x∈iL op len C K P Q X,x<18446744073709551616:=by
 unfold iL;split<;>simp_all[Ks]<;>grind
def jf(xss:List (List Nat)):Prop:=∀k,∀x∈xss.getD k [],x<18446744073709551616
theorem lr{p}[Decidable p](h:∀x∈xs,x<18446744073709551616):∀x∈(if p then xs else[]),x<18446744073709551616:=by
 grind
theorem NX{r v l}(an:jf r)(aO:v.k<18446744073709551616)(bO:jf l):∀x∈one r v l,x<18446744073709551616:=by
 unfold one;split
 ·exact an _
 exact Cq aO (lr (bO _)) (lr (bO _)) (lr (bO _))
theorem sC{r vs}(an:jf r)(aO:∀k,(vs.getD k hF).k<18446744073709551616):∀i,jf (fV r vs i)
 |0=>λk x h=>by simp[fV]at h
 |i+1=>λk x h=>by
  have G:=sC an aO i
  rcases Nat.lt_trichotomy k i with c|c|c
  ·rw[lI _ _ c]at h;exact G k x h
  ·subst c;rw[oW]at h;exact NX an (aO _) G x h
  ·rw[yai,List.getElem?_eq_none (by rw[jQ];omega)]at h;cases h
end
section
attribute[local go_sem] eF eE
def xI(op:BinOp)(v:Nat):Nat->Nat
 |0=>v
 |k+1=>cop op (xI op v k) 4611686018427387904
def frV(b:Nat):Nat:=cop .quo (floatOfInt .f64 ((b%4503599627370496:Nat):Int)) 4841369599423283200
def sgV(b v:Nat):Nat:=if 9223372036854775808<=b then Op.negFloat .f64 v else v
def ffG(e V:Nat):Nat:=xI .quo (xI .mul V (e-1023)) (1023-e)
def ffV(b:Nat):Nat:=
 if b/4503599627370496%2048=2047 then if (f64.order (frV b) 0 !=some .eq)=true then cop .quo 0 0 else sgV b (cop .quo 4607182418800017408 0)
 else sgV b (if b/4503599627370496%2048=0 then ffG 1 (frV b)else ffG (b/4503599627370496%2048) (cop .add 4607182418800017408 (frV b)))
theorem Cr{op v}(h:v<18446744073709551616):∀k,xI op v k<18446744073709551616
 |0=>h
 |_+1=>kM _ _ _
def FwO(w:World)(v:Nat)(e:Ending)(w':World):Prop:=∃y,e=.returned (.float .f64 y)/\fb y=fb v/\y<18446744073709551616/\∃m,w'=w.drewN m
theorem vB(b:Nat)(w)(hb:b<18446744073709551616):Calls prog 107 #[.int .u64 (b:Int)] w (FwO w (ffV b)):=by
 have f1:=@jX prog;have f2:=@lM prog;have f3:=@nQ prog;have f:=lF;have ap:(b:Int)/4503599627370496%2048=((b/4503599627370496%2048:Nat):Int):=xaa;have ht:(b:Int)%4503599627370496=((b%4503599627370496:Nat):Int):=xaa;have ho:∀W,FloatKind.f64.format.order (fop .quo (floatOfInt .f64 ((b%4503599627370496:Nat):Int)) 4841369599423283200 W) 0=f64.order (frV b) 0:=λW=>jR (gl _ _ _ _) rfl;have HR:E (∀W,fb (fop .quo (floatOfInt .f64 ((b%4503599627370496:Nat):Int)) 4841369599423283200 W)=fb (frV b)):=λW=>gl _ _ _ _;obtain⟨V,bO⟩:∃V,V=ffV b:=⟨_,rfl⟩
 have I:frV b<18446744073709551616:=kM _ _ _;rw[<-bO];unfold ffV at bO;generalize frV b=r at ho HR bO I;generalize b%4503599627370496=t at ht ho HR;have l:b/4503599627370496%2048<2048:=Nat.mod_lt _ xaa;generalize b/4503599627370496%2048=q at ap bO l
 have ao:E (∀{y v:Nat}{W:World},fb y=fb v->y<18446744073709551616->v<18446744073709551616->(∃m,W=w.drewN m)->V=sgV b v->((9223372036854775808<=b->FwO w V (.returned (.float .f64 (Op.negFloat .f64 y))) W)/\(¬9223372036854775808<=b->FwO w V (.returned (.float .f64 y)) W))):=λF N h3 a6 bF=>by
  subst bF
  exact⟨λc=>⟨_,rfl,by rw[sgV,hD c];exact vz N h3 F,mW N,a6⟩,λc=>⟨_,rfl,by rw[sgV,hC c];exact F,N,a6⟩⟩
 by_cases aj:q=2047
 ·subst aj;replace ap:_=(2047:Int):=ap;rw[hD rfl]at bO;cases al:(f64.order r 0 !=some .eq)
  ·rw[al,hC xac]at bO;have F:FloatKind.f64.format.order (fop .quo (floatOfInt .f64 (t:Int)) 4841369599423283200 w) 0=some .eq:=by rw[ho];simpa using al
   have bH:E _:=bO;clear ho al bO;by_cases au:9223372036854775808<=b
   all_goals
    first|have ch:decide (9223372036854775808<=(b:Int))=true:=decide_eq_true xaa|have ch:decide (9223372036854775808<=(b:Int))=false:=yay xaa
    go_enter func107,ntmps107
    go_wp2
    go_ret
    first|exact(ao.o (gl _ _ _ _) (gJ _ _ _ _) (kM _ _ _) ⟨_,rfl⟩ bH.o).1 au|exact(ao.o (gl _ _ _ _) (gJ _ _ _ _) (kM _ _ _) ⟨_,rfl⟩ bH.o).2 au
  rw[al,hD rfl]at bO;have F:(FloatKind.f64.format.order (fop .quo (floatOfInt .f64 (t:Int)) 4841369599423283200 w) 0 !=some .eq)=true:=hL ho al
  clear ho al;go_enter func107,ntmps107;go_wp2;go_ret;exact⟨_,rfl,by rw[bO];exact gl _ _ _ _,gJ _ _ _ _,_,rfl⟩
 rw[hC aj]at bO;have Q:((q:Int)==2047)=false:=yan xaa;clear ho
 obtain⟨e,G,bg,aZ,i,g⟩:∃e G,G<18446744073709551616/\(1<=e/\e<2047)/\V=sgV b (ffG e G)/\(q=0/\e=1/\G=r\/0<q/\e=q/\G=cop .add 4607182418800017408 r):=by
  by_cases h:q=0
  ·exact⟨1,r,I,by omega,by rw[bO,hD h],.inl ⟨h,rfl,rfl⟩⟩
  exact⟨q,_,kM _ _ _,by omega,by rw[bO,hC h],.inr ⟨by omega,rfl,rfl⟩⟩
 have bH:E _:=i;have be:E _:=bg;clear bO i bg aj;have HC:E (∀{op:BinOp}{y v:Nat} (W:World),fb y=fb v->fb (fop op y 4611686018427387904 W)=fb (cop op v 4611686018427387904)):=λW h=>by rw[gl,gG _ h rfl]
 have HD:E (∀W:World,fb (fop .add 4607182418800017408 (fop .quo (floatOfInt .f64 (t:Int)) 4841369599423283200 w) W)=fb (cop .add 4607182418800017408 r)):=λW=>by rw[gl,gG _ rfl (HR.o w)]
 have HE:E _:=aZ;rcases g with⟨al,F,N⟩|⟨al,F,N⟩
 all_goals
  have ar:E (G=_):=N
  have b9:E (e=_):=F
  clear N F aZ
  go_enter func107,ntmps107
  go_wp2_with fail
  clear ap ht Q al
  have af:=HE.o
  go_loopw [5,3] (λv x W=>∃j z:Nat,j<=e-1023/\v=.float .f64 z/\x=hA ((e:Int)-j)/\E (fb z=fb (xI .mul G j)/\z<18446744073709551616/\∃m,W=w.drewN m)) (λ_ x _=>(intOf x).toNat)
  case atStart=>exact⟨0,_,yae,rfl,by rw[b9.o];simp,by rw[ar.o];first|exact HR.o _|exact HD.o _,gJ _ _ _ _,_,rfl⟩
  case round=>
   obtain⟨j,z,hj,rfl,rfl,bv⟩:=hrel
   by_cases ah:j<e-1023
   ·go_wp2
    go_roundw;exact⟨j+1,_,by omega,rfl,by go_num,HC.o _ bv.o.1,gJ _ _ _ _,by obtain⟨_,_,m,rfl⟩:=bv.o;exact⟨_,World.drewN_drewN ..⟩⟩;simp[intOf];omega
   ·have b2:E (fb z=fb (xI .quo (xI .mul G (e-1023)) 0)/\z<18446744073709551616/\∃m,wr=w.drewN m):=by
     obtain rfl:j=e-1023:=xaa
     exact bv.o
    obtain⟨u,aB,n⟩:∃u:Nat,(u:Int)=e-j/\u+(1023-e)=1023:=⟨e-j,by omega,by omega⟩
    rw[<-aB]
    have ds:¬1023<(u:Int):=xaa
    clear bv hj ah aB
    go_wp2_with fail
    clear ds
    go_loopw [5,3] (λv x W=>∃j z:Nat,j<=1023-e/\v=.float .f64 z/\x=hA ((u:Int)+j)/\E (fb z=fb (xI .quo (xI .mul G (e-1023)) j)/\z<18446744073709551616/\∃m,W=w.drewN m)) (λ_ x _=>1023-(intOf x).toNat)
    case atStart=>exact⟨0,_,yae,rfl,by simp,b2⟩
    case round=>
     obtain⟨j,z,hj,rfl,rfl,bv⟩:=hrel
     by_cases ah:j<1023-e
     ·go_wp2
      go_roundw;exact⟨j+1,_,by omega,rfl,by go_num,HC.o _ bv.o.1,gJ _ _ _ _,by obtain⟨_,_,m,rfl⟩:=bv.o;exact⟨_,World.drewN_drewN ..⟩⟩;simp[intOf];omega
     ·obtain rfl:j=1023-e:=xaa
      have aT:((u:Int)+((1023-e:Nat):Int))=1023:=xaa
      rw[aT]
      clear hj ah aT
      by_cases au:9223372036854775808<=b
      all_goals
       first|have ch:decide (9223372036854775808<=(b:Int))=true:=decide_eq_true xaa|have ch:decide (9223372036854775808<=(b:Int))=false:=yay xaa
       go_wp2
       go_ret
       have k:=ao.o bv.o.1 bv.o.2.1 (Cr (Cr be.o _) _) bv.o.2.2 bH.o
       first|exact k.1 au|exact k.2 au
end
section
attribute[local go_sem] eF eE eD
variable{vs0 us:List Vl}
def nd(i:Int)(v:Vl)(la:Int)(k:Nat)(d:Int)(N:Nat):List Vl×Int:=
 if v.op=2 then ([],d)
 else if v.op=3 then (if k=0 then ([],d)else ([eK 6 v.len d 0 0],N))
 else if v.op=4 then (if k=0 then ([eK 4 v.len d v.b 0],N)else ([eK 4 v.len d v.a 0],N))
 else if v.op=5 then (if k=0 then ([eK 5 v.len d v.b 0],N)else ([eK 4 v.len d i 0,eK 5 v.len N v.b 0,eK 6 v.len ((N+1:Nat):Int) 0 0],((N+2:Nat):Int)))
 else if v.op=6 then ([eK 6 v.len d 0 0],N)
 else if v.op=13 then ([eK 4 v.len d i 0],N)
 else if v.op=8 then (if k=1 then ([eK 1 v.len 0 0 0,eK 8 v.len v.a d N],((N+1:Nat):Int))else ([eK 1 v.len 0 0 0,eK 8 v.len v.a N d],((N+1:Nat):Int)))
 else if v.op=7 then (if k=0 then ([eK 3 v.len v.a v.b 0,eK 1 v.len 0 0 0,eK 8 v.len N d ((N+1:Nat):Int)],((N+2:Nat):Int))else ([eK 3 v.len v.a v.b 0,eK 1 v.len 0 0 0,eK 8 v.len N ((N+1:Nat):Int) d],((N+2:Nat):Int)))
 else if v.op=9 then ([eK 10 la d 0 0],N)
 else if v.op=10 then ([eK 9 1 d 0 0],N)
 else if v.op=11 then ([eK 12 la d 0 v.c],N)
 else ([eK 11 1 d 0 v.c],N)
def ph(v:Vl)(k:Nat):Bool:=!(v.op==8&&k==0)
def Pre(vs0 us:List Vl):Prop:=∃r,us=vs0++r
theorem Pre.at_(h:Pre vs0 us){j}(hj:j<vs0.length):us.getD j hF=vs0.getD j hF/\j<us.length:=by
 obtain⟨r,rfl⟩:=h;grind
theorem Pre.app{a}(h:Pre vs0 us):Pre vs0 (us++a):=by
 obtain⟨r,rfl⟩:=h;exact⟨r++a,by rw[List.append_assoc]⟩
end
section
theorem jo{P w a m}(f r c):(store a (.func f r c) m).run P w=stored P w a (.func f r c) m:=run_store P w a _ m rfl
attribute[local go_sem] eF eE eD jo
end
section
attribute[local go_sem] eF eE eD jo
variable{vs0:List Vl}{act:List Bool}{st:List Vl×List Int}
def ms(vs0:List Vl)(o:Nat)(p:Int)(st:List Vl×List Int):List Vl×List Int:=
 if st.2.getD o 0=-1 then (st.1,st.2.set o p)else (st.1++[eK 2 (vs0.getD o hF).len (st.2.getD o 0) p 0],st.2.set o (st.1.length:Nat))
def laM(vs0:List Vl)(i:Nat):Int:=(vs0.getD (vs0.getD i hF).a.toNat hF).len
def gkM(vs0:List Vl)(act:List Bool)(i k:Nat)(st:List Vl×List Int):List Vl×List Int:=
 if act.getD (fld (vs0.getD i hF) k).toNat false=true/\ph (vs0.getD i hF) k=true then
  ms vs0 (fld (vs0.getD i hF) k).toNat (nd (i:Int) (vs0.getD i hF) (laM vs0 i) k (st.2.getD i 0) st.1.length).2 (st.1++(nd (i:Int) (vs0.getD i hF) (laM vs0 i) k (st.2.getD i 0) st.1.length).1,st.2)
 else st
def jI(vs0:List Vl)(act:List Bool)(i:Nat)(st:List Vl×List Int):Nat->List Vl×List Int
 |0=>st
 |k+1=>gkM vs0 act i k (jI vs0 act i st k)
def giM(vs0:List Vl)(act:List Bool)(i:Nat)(st:List Vl×List Int):List Vl×List Int:=
 if st.2.getD i 0=-1 then st else jI vs0 act i st (cnt (vs0.getD i hF).op)
def SzP(M:List Vl×Int):Prop:=M.1.length<=3/\0<=eU M.1/\eU M.1<=3000
theorem Kt{p}[Decidable p]{a b}(ar:SzP a)(hb:SzP b):SzP (if p then a else b):=by split<;>assumption
theorem zH(i v l k d aV)(al:0<=v.len)(F:v.len<=1000)(N:0<=l)(h3:l<=1000):SzP (nd i v l k d aV):=by
 unfold nd;repeat' (apply Kt)
 all_goals (unfold SzP;simp only[eU,yaq,List.length_nil];omega)
theorem Ku{i k}(h:Pre vs0 st.1):Pre vs0 (gkM vs0 act i k st).1:=by
 unfold gkM ms;split
 ·split
  ·exact h.app
  exact h.app.app
 exact h
theorem tW{vs0 act i st}(h:Pre vs0 st.1):∀k,Pre vs0 (jI vs0 act i st k).1
 |0=>h
 |k+1=>Ku (tW h k)
theorem Kv{i k}:(gkM vs0 act i k st).2.length=st.2.length:=by
 unfold gkM ms;split
 ·split<;>simp
 rfl
theorem qB{vs0 act i st}:∀k,(jI vs0 act i st k).2.length=st.2.length
 |0=>rfl
 |k+1=>by rw[jI,Kv,qB k]
def NZ(act:List Bool)(v:Vl):Bool:=(List.range (cnt v.op)).any λk=>act.getD (fld v k).toNat false
def jg(vs0:List Vl)(x:Nat):Nat->List Bool
 |0=>(List.replicate vs0.length false).set x true
 |m+1=>(jg vs0 x m).set (x+1+m) (NZ (jg vs0 x m) (vs0.getD (x+1+m) hF))
theorem oA(vs0 x):∀m,(jg vs0 x m).length=vs0.length
 |0=>by simp[jg]
 |m+1=>by rw[jg,List.length_set,oA vs0 x m]
end
section
variable{vs0 us:List Vl}{L' L i:Nat}{act:List Bool}{C C':Int}{st:List Vl×List Int}
def SzU(L:Nat)(C:Int)(us:List Vl):Prop:=us.length<=L/\0<=eU us/\eU us<=C
theorem SzU.app{a}(h:SzU L C us)(h':SzU L' C' a):SzU (L+L') (C+C') (us++a):=by
 obtain⟨a1,U,a3⟩:=h;obtain⟨R,aS,aa⟩:=h';refine⟨by grind,?_,?_⟩<;>(rw[sX];omega)
theorem SzU.mono(h:SzU L C us)(F:L<=L')(N:C<=C'):SzU L' C' us:=⟨yao h.1 F,h.2.1,Int.le_trans h.2.2 N⟩
def LnB(vs0:List Vl):Prop:=∀j,0<=(vs0.getD j hF).len/\(vs0.getD j hF).len<=1000
theorem ro(h:∀j,j<vs0.length->1<=(vs0.getD j hF).len/\(vs0.getD j hF).len<=1000):LnB vs0:=λj=>by
 by_cases hj:j<vs0.length
 ·grind
 ·rw[yai,List.getElem?_eq_none xaa]
  show 0<=(0:Int)/\(0:Int)<=1000
  omega
theorem G2(bA:LnB vs0){o p}(h:SzU L C st.1):SzU (L+1) (C+1000) (ms vs0 o p st).1:=by
 unfold ms;split
 ·exact h.mono xaa xaa
 refine h.app ⟨by simp,?_,?_⟩<;>(simp only[eU];have:=bA o;omega)
theorem N0(bA:LnB vs0){k}(h:SzU L C st.1):SzU (L+4) (C+4000) (gkM vs0 act i k st).1:=by
 unfold gkM;split
 ·have aM:=zH i _ (laM _ i) k (st.2.getD i 0) st.1.length (bA i).1 (bA i).2 (bA _).1 (bA _).2;have:=G2 bA (o:=(fld (vs0.getD i hF) k).toNat) (p:=(nd (i:Int) (vs0.getD i hF) (laM vs0 i) k (st.2.getD i 0) st.1.length).2) (st:=(st.1++(nd (i:Int) (vs0.getD i hF) (laM vs0 i) k (st.2.getD i 0) st.1.length).1,st.2)) (SzU.app (L':=3) (C':=3000) h ⟨aM.1,aM.2.1,aM.2.2⟩);grind
 exact h.mono xaa xaa
theorem xJ{vs0}(bA:LnB vs0){act i L C st}(h:SzU L C st.1):∀k:Nat,SzU (L+4*k) (C+4000*(k:Int)) (jI vs0 act i st k).1
 |0=>h.mono xaa xaa
 |k+1=>(N0 bA (xJ bA h k)).mono xaa xaa
theorem N1(bA:LnB vs0)(h:SzU L C st.1):SzU (L+12) (C+12000) (giM vs0 act i st).1:=by
 have:=fI (vs0.getD i hF).op;unfold giM;split
 ·exact h.mono xaa xaa
 exact(xJ bA h _).mono xaa xaa
theorem Kw(h:Pre vs0 st.1):Pre vs0 (giM vs0 act i st).1:=by
 grind[giM,tW]
theorem Kx:(giM vs0 act i st).2.length=st.2.length:=by
 grind[giM,qB]
def zJ(vs0:List Vl)(act:List Bool)(x:Nat)(st:List Vl×List Int)(js:List Nat):List Vl×List Int:=js.foldl (λst j=>giM vs0 act (x+1+j) st) st
theorem Bp(vs0 act x st aY j):zJ vs0 act x st (aY++[j])=giM vs0 act (x+1+j) (zJ vs0 act x st aY):=by simp[zJ]
def G3(m:Nat):List Nat:=(List.range m).map (λi=>m-1-i)
def xK(vs0:List Vl)(s:Nat):List Vl×List Int:=(vs0++[⟨1,1,0,0,0,4607182418800017408⟩],(List.replicate vs0.length (-1)).set s (vs0.length:Nat))
def N2(vs0:List Vl)(x:Nat)(st:List Vl×List Int):List Vl×Int:=
 if st.2.getD x 0=-1 then (st.1++[eK 1 (vs0.getD x hF).len 0 0 0],(st.1.length:Nat))else (st.1,st.2.getD x 0)
def grM(vs0:List Vl)(s x:Nat):List Vl×Int:=
 if (jg vs0 x (s-x)).getD s false=true then N2 vs0 x (zJ vs0 (jg vs0 x (s-x)) x (xK vs0 s) (G3 (s-x)))
 else (vs0++[eK 1 (vs0.getD x hF).len 0 0 0],(vs0.length:Nat))
end
section
attribute[local go_sem] eF eE eD
theorem PH{ins vs}(bV:(List.range vs.length).all (okV ins vs)=true):∀i,i<vs.length->((vs.getD i hF).op=9\/(vs.getD i hF).op=11)->∃j:Nat,(vs.getD i hF).a=(j:Int)/\j<vs.length/\(vs.getD j hF).len=laM vs i/\1<=laM vs i/\laM vs i<=1000:=λi hi ho=>by
 have h:=mn (List.all_eq_true.1 bV i (List.mem_range.2 hi)) 0 (by rcases ho with c|c<;>(rw[c];decide))
 have e:fld _ 0=(vs.getD i hF).a:=rfl
 rw[e]at h
 have hj:(vs.getD i hF).a.toNat<vs.length:=xaa
 have af:=fU (List.all_eq_true.1 bV _ (List.mem_range.2 hj))
 exact⟨_,by omega,hj,rfl,af.1,af.2⟩
end
section
variable{w I:World}{m1 ae m3 ai base cap aN:Nat}{R aa U:Option Addr}{vs vs0:List Vl}{v:Vl}{H R':Option Nat}
noncomputable abbrev Qx (n:Nat):Code:=(Tryz.f140.body.bind (px n)).getD .skip
def PtP(w:World)(b1:Option Addr)(m1 e1:Nat)(b3:Option Addr)(m3 e3:Nat)(vs:List Vl)(base:Nat)(R:Option Nat)(M:List Vl×Int)(bb:Bool)(e:Ending)(w':World):Prop:=
 ∃a2' cap' R',e=.returned (.tuple #[eZ b1 m1 e1 a2' (vs++M.1).length cap' b3 m3 e3,.int .i64 M.2,.bool bb])/\w'.ownsRow base 62 6 (.slice a2' (vs++M.1).length cap') (vs++M.1).length (fF (vs++M.1))/\(Value.slice a2' (vs++M.1).length cap').ownBlock=R'/\StQ (λ_=>False) R w R' w'
theorem MS.finP{W M}(h:MS w W R m1 ae aa m3 ai vs v base H R' U cap)(k:Kept 0 0 W I)(aO:vs=vs0++M.1)(aC):
  PtP w R m1 ae aa m3 ai vs0 base H M aC (.returned (.tuple #[eZ R m1 ae U vs.length cap aa m3 ai,hA M.2,.bool aC])) (fw I (w.heap.size+1) (.slice R m1 ae) (.slice U vs.length cap) (.slice aa m3 ai)):=by
 exact xdy
theorem xL(h:w.ownsRow base 62 6 (hz aN vs.length cap) vs.length (fF vs))(k:Kept 0 0 w I)(r aC):
  PtP w R m1 ae aa m3 ai vs base (some aN) ([],r) aC (.returned (.tuple #[eZ R m1 ae (some ⟨aN,0,none⟩) vs.length cap aa m3 ai,hA r,.bool aC])) I:=by
 unfold PtP;exact xhn
theorem MS.finPR{W M aC}(h:MS w W R m1 ae aa m3 ai vs v base H R' U cap)(K:∃aF,Kept 0 0 W aF/\I=fw aF (w.heap.size+1) (.slice R m1 ae) (.slice U vs.length cap) (.slice aa m3 ai))(aO:vs=vs0++M.1):
  PtP w R m1 ae aa m3 ai vs0 base H M aC (.returned (.tuple #[eZ R m1 ae U vs.length cap aa m3 ai,hA M.2,.bool aC])) I:=by
 grind[MS.finP]
def PtC(w:World)(b1 b3:Option Addr)(m1 e1 cap m3 e3 base g2 i:Nat)(vs:List Vl)(k d:Int)(M:List Vl×Int)(bb:Bool):Prop:=
 Calls prog 140 #[eZ b1 m1 e1 (some ⟨g2,0,none⟩) vs.length cap b3 m3 e3,.int .i64 (i:Int),.int .i64 k,.int .i64 d] w λe w'=>PtP w b1 m1 e1 b3 m3 e3 vs base (some g2) M bb e w'
theorem MS.len1{W}(h:MS w W R m1 ae aa m3 ai vs v base H R' (some ⟨aN,0,none⟩) cap){j l}(hj:j<vs.length)(m:(vs.getD j hF).len=l):W.cell? ⟨aN,j*6+1,none⟩=some (hA l):=by
 obtain⟨g,c,e,_,_,_,f⟩:=mX h.g.own xaa rfl;cases e;have:=(f.at_ j hj).c1;grind
def PfK(R:World->Prop)(p0 p1 p2 p3 p4 p5 p6 p7 p8 p11 p12 p13 p14 p15 p16 p17 p18 p19 q9 q10:Value)(K:Act->World->Prop):Prop:=∀{a b c d e f g h i j k l m n o p q r s t u v w x y z A B C D Eaa F G H I J L M N O P Q S T U V W X Y Z aa ab ad ae af ag ah ai aj ak al am an ao ap aq ar au av aw ax ay az aA aB aC aD aE aF aG aH aI aJ aK aL aM aN aO aP aQ aR aS aT aU aV aW aX aY aZ a0 a1 a2 a3 a4 a5 a6 a7 a8 a9 ba bb bc bd be bf bg bh bi bj bk bl bm bn bo bp bq br bs bt bu bv bw bx bz bA bB bC bD bE bF bG bH bI bJ bK bL bM bN bO bP bQ bR bS bT bU bV bW bX bY bZ b0 b1 b2 b3 b4 b5 b6 b7 b8 b9 ca cb cc cd ce cf cg ch ci cj ck cl cm cn co:Value} (W':World),R W'->K ⟨#[p0,p1,p2,p3,p4,p5,p6,p7,p8,q9,q10,p11,p12,p13,p14,p15,p16,p17,p18,p19,a,b,c,d,e,f,g,h,i,j,k,l,m,n,o,p,q,r,s,t,u,v,w,x,y,z,A,B,C,D,Eaa,F,G,H,I,J,L,M,N,O,P,Q,S,T,U,V,W,X,Y,Z,aa,ab,ad,ae,af,ag,ah,ai,aj,ak,al,am,an,ao,ap,aq,ar,au,av,aw,ax,ay,az,aA,aB,aC,aD,aE,aF,aG,aH,aI,aJ,aK,aL,aM,aN,aO,aP,aQ,aR,aS,aT,aU,aV,aW,aX,aY,aZ,a0,a1,a2,a3,a4,a5,a6,a7,a8,a9,ba,bb,bc,bd,be,bf,bg,bh,bi,bj,bk,bl,bm,bn,bo,bp,bq,br,bs,bt,bu,bv,bw,bx,bz,bA,bB,bC,bD,bE,bF,bG,bH,bI,bJ,bK,bL,bM,bN,bO,bP,bQ,bR,bS,bT,bU,bV,bW,bX,bY,bZ,b0,b1,b2,b3,b4,b5,b6,b7,b8,b9,ca,cb,cc,cd,ce,cf,cg,ch,ci,cj,ck,cl,cm,cn,co],[]⟩ W'
def PfC(n:Nat)(W:World)(R:World->Prop)(a b c d e f g h i t u j k l m o p q r s v w:Value):Prop:=
 ∀{K:Act->World->Prop}{x y z A B C D Eaa F G H I J L M N O P Q S T U V X Y Z aa ab ad ae af ag ah ai aj ak al am an ao ap aq ar au av aw ax ay az aA aB aC aD aE aF aG aH aI aJ aK aL aM aN aO aP aQ aR aS aT aU aV aW aX aY aZ a0 a1 a2 a3 a4 a5 a6 a7 a8 a9 ba bb bc bd be bf bg bh bi bj bk bl bm bn bo bp bq br bs bt bu bv bw bx bz bA bB bC bD bE bF bG bH bI bJ bK bL bM bN bO bP bQ bR bS bT bU bV bW bX bY bZ b0 b1 b2 b3 b4 b5 b6 b7 b8 b9 ca cb cc cd ce cf cg ch ci cj ck cl cm cn co cp cq cr cs ct cu cv cw cx cy cz cA cB cC cD cE cF cG cH cI cJ cK cL cM:Value},PfK R a b c d e f g h i j k l m o p q r s v w K->Code.wp prog (Qx n) (Exit.then K λ_ _ _=>False) ⟨#[a,b,c,d,e,f,g,h,i,t,u,j,k,l,m,o,p,q,r,s,x,y,z,A,B,C,D,Eaa,F,G,H,I,J,L,M,N,O,P,Q,S,T,U,V,X,Y,Z,aa,ab,ad,ae,af,ag,ah,ai,aj,ak,al,am,an,ao,ap,aq,ar,au,av,aw,ax,ay,az,aA,aB,aC,aD,aE,aF,aG,aH,aI,aJ,aK,aL,aM,aN,aO,aP,aQ,aR,aS,aT,aU,aV,aW,aX,aY,aZ,a0,a1,a2,a3,a4,a5,a6,a7,a8,a9,ba,bb,bc,bd,be,bf,bg,bh,bi,bj,bk,bl,bm,bn,bo,bp,bq,br,bs,bt,bu,bv,bw,bx,bz,bA,bB,bC,bD,bE,bF,bG,bH,bI,bJ,bK,bL,bM,bN,bO,bP,bQ,bR,bS,bT,bU,bV,bW,bX,bY,bZ,b0,b1,b2,b3,b4,b5,b6,b7,b8,b9,ca,cb,cc,cd,ce,cf,cg,ch,ci,cj,ck,cl,cm,cn,co,cp,cq,cr,cs,ct,cu,cv,cw,cx,cy,cz,cA,cB,cC,cD,cE,cF,cG,cH,cI,cJ,cK,cL,cM],[]⟩ W
theorem G4{op}(h:op≠1)(len C K K' P Q X):iL op len C K P Q X=iL op len C K' P Q X:=by
 unfold iL;have:gD op C K P Q X=gD op C K' P Q X:=by grind[gD]
 rw[this]
end
section
attribute[local go_sem] eF eE eD
variable{w B I:World}{lo base j k n g c:Nat}{z:Option Nat}{v u:Value}{b:Option Addr}{l:List (List Nat)}{xs x:List Nat}
theorem FS.setS{hi a}(f:FS w lo hi a n xs)(ah:w.cell? ⟨g,k,none⟩=some u)(aB:∀x,u≠.float .f64 x)(v):FS (w.setCell ⟨g,k,none⟩ v) lo hi a n xs:=
 ⟨f.len,f.lt,by
  rcases f.at_ with al|⟨aq,off,e,F,N,h3,a6⟩
  ·exact .inl al
  ·refine .inr ⟨aq,off,e,F,N,by simpa using h3,λj hj=>?_⟩
   by_cases c:g=aq/\k=off+j
   ·obtain⟨rfl,rfl⟩:=c
    have:=a6 j hj
    rw[ah]at this
    injection this with this
    exact absurd this (aB _)
   ·rw[eQ _ _ _ _ _ _ xaa];exact a6 j hj⟩
theorem Cl.setS{y}(f:Cl w y xs)(ah:w.cell? ⟨g,k,none⟩=some u)(aB:∀x,u≠.float .f64 x)(v):Cl (w.setCell ⟨g,k,none⟩ v) y xs:=by
 obtain⟨b,n,c,zs,F,N,h3,a6⟩:=f;exact⟨b,n,c,zs,F,N,(h3.setS ah aB v).mono yad xac,a6⟩
theorem nz(b n c):∀x,(Value.slice b n c)≠.float .f64 x:=λ_ h=>by cases h
structure LV(w:World)(g n k:Nat)(Vs:List (List Nat)):Prop where
 lt:g<w.heap.size
 free:∀o,w.frozen? ⟨g,o,none⟩=false
 at_:∀j,j<n->∃b m c,w.cell? ⟨g,j,none⟩=some (.slice b m c)/\(j<k->Cl w (.slice b m c) (Vs.getD j []))
theorem LV.keep(f:LV w g n k l)(q:Kept 0 0 w B):LV B g n k l:=
 ⟨yak f.lt q.size,λo=>by rw[q.frozen (p:=⟨g,o,none⟩) f.lt xaa];exact f.free o,λj hj=>by
  obtain⟨b,m,c,F,N⟩:=f.at_ j hj
  exact⟨b,m,c,iD q f.lt F,λh=>(N h).keep q⟩⟩
theorem tX(bg:Nat->List Nat)(h:j<n):((List.range n).map bg).getD j []=bg j:=by
 simp[List.getD_eq_getElem?_getD,h]
theorem FS.grown{W zs}(f:FS W 0 W.heap.size b n zs)(aJ:W.grownBy I z)(bL:0<n->∀p,b=some p->z≠some p.block):FS I 0 I.heap.size b n zs:=
 ⟨f.len,f.lt,by
  rcases f.at_ with al|⟨aq,off,e,F,N,h3,a6⟩
  ·exact .inl al
  ·refine .inr ⟨aq,off,e,F,yak h3 aJ.size,yak h3 aJ.size,λj hj=>?_⟩
   rw[aJ.cell_far ⟨aq,off+j,none⟩ h3 (λc=>bL xaa _ e c.symm)]
   exact a6 j hj⟩
theorem Cl.grown{W}(f:Cl W (.slice b n c) xs)(aJ:W.grownBy I z)(bL:0<n->∀p,b=some p->z≠some p.block):Cl I (.slice b n c) xs:=by
 obtain⟨G,q,ar,zs,e,N,h3,a6⟩:=f;cases e;exact⟨b,n,c,zs,rfl,N,h3.grown aJ bL,a6⟩
theorem Cl.lt{W}(f:Cl W (.slice b n c) xs)(ad:0<n)(p)(aM:b=some p):p.block<W.heap.size:=by
 obtain⟨G,q,ar,zs,e,N,h3,a6⟩:=f;cases e;rcases h3.at_ with al|⟨aq,off,e,F,N,h3,a6⟩
 ·omega
 rw[e]at aM;cases aM;exact h3
theorem Cn.ge{W}(f:Cn W lo (.slice b n c) xs)(ad:0<n)(p)(aM:b=some p):lo<=p.block:=by
 obtain⟨G,q,ar,zs,e,N,h3,a6⟩:=f;cases e;rcases h3.at_ with al|⟨aq,off,e,F,N,h3,a6⟩
 ·omega
 rw[e]at aM;cases aM;exact F
def AR(W:World)(base:Nat)(v:Value)(k:Nat)(Vs:List (List Nat)):Prop:=
 ∃us:List Value,W.ownsRow base 55 1 v k us/\∀j,j<k->∃b n c,us[j]? =some (.slice b n c)/\Cl W (.slice b n c) (Vs.getD j [])/\(0<n->∀p,b=some p->v.ownBlock≠some p.block)
theorem AR.nil(W base l):AR W base (.slice none 0 0) 0 l:=⟨[],yaw _ _ _ _,λ_ hj=>absurd hj (Nat.not_lt_zero _)⟩
theorem AR.keep{W}(f:AR W base v k l)(q:Kept 0 0 W I):AR I base v k l:=by
 obtain⟨us,F,N⟩:=f;refine⟨us,eO F q,λj hj=>?_⟩;obtain⟨b,n,c,a1,U,a3⟩:=N j hj;exact⟨b,n,c,a1,U.keep q,a3⟩
theorem AR.cell{W}(f:AR W base v k l)(O:0<k):
  ∃g cap,v=hz g k cap/\base<=g/\g<W.heap.size/\∀j,j<k->∃b n c,W.cell? ⟨g,j,none⟩=some (.slice b n c)/\Cl W (.slice b n c) (l.getD j [])/\(0<n->∀p,b=some p->g≠p.block):=by
 obtain⟨us,F,N⟩:=f;rcases F.2 with⟨_,c⟩|⟨g,cap,av,rfl,R,aS,aa,_,b7,ba⟩
 ·omega
 have aJ:g<W.heap.size:=by
  exact xgw
 refine⟨g,cap,rfl,R,aJ,λj hj=>?_⟩;obtain⟨b,n,c,a1,U,a3⟩:=N j hj;refine⟨b,n,c,?_,U,λad p aM e=>a3 ad p aM (by rw[<-e];rfl)⟩;rw[cell_of_row W g _ av _ _ aS,<-Array.getElem?_toList];have:(av.toList.take (k*1))[j]? =us[j]?:=by rw[ba]
 rw[List.getElem?_take_of_lt xaa]at this;rw[this,a1]
theorem AR.step{W us}(F:W.ownsRow base 55 1 v k us)
  (N:∀j,j<k->∃b n c,us[j]? =some (.slice b n c)/\Cl W (.slice b n c) (l.getD j [])/\(0<n->∀p,b=some p->v.ownBlock≠some p.block))
  {o} (bu:Cl W (.slice b n c) x) (ad:0<n->∀p,b=some p->v.ownBlock≠some p.block) {cap}{bj}
  (bF:bj.ownsRow base 55 1 (hz g (k+1) cap) (k+1) (us++[.slice b n c])) (aJ:(W.alloc o).grownBy bj v.ownBlock) (a7:v.ownBlock=some g\/g=(W.alloc o).heap.size)
  {f} (ae:∀j,j<k->f.getD j []=l.getD j []) (a9:f.getD k []=x):AR bj base (hz g (k+1) cap) (k+1) f:=by
 have af:us.length=k:=hJ F.1
 have bh:=ez 0 0 W o;have au:W.heap.size<(W.alloc o).heap.size:=by simp
 have aB:∀(b:Option Addr) (n c:Nat) (x:List Nat),Cl W (.slice b n c) x->(0<n->∀p,b=some p->v.ownBlock≠some p.block)->Cl bj (.slice b n c) x/\(0<n->∀p,b=some p->(hz g (k+1) cap).ownBlock≠some p.block):=λb n c x ah aO=>
  ⟨(ah.keep bh).grown aJ aO,λal p aM e=>by
    have aN:g=p.block:=by simpa[Value.ownBlock] using e
    rcases a7 with h|h
    ·exact aO al p aM (by rw[h,aN])
    ·have:=ah.lt al p aM
     omega⟩
 refine⟨_,bF,λj hj=>?_⟩;by_cases ar:j<k
 ·obtain⟨G,q,i,a1,U,a3⟩:=N j ar;obtain⟨aw,ak⟩:=aB _ _ _ _ U a3;exact⟨G,q,i,by rw[yat xaa];exact a1,by rw[ae j ar];exact aw,ak⟩
 have:j=k:=xaa;subst this;obtain⟨aw,ak⟩:=aB _ _ _ _ bu ad;exact⟨b,n,c,by rw[yas xaa,af,Nat.sub_self];rfl,hL a9 aw,ak⟩
theorem AR.ss{W}(f:AR W base v k l):∃a cap y,v=.slice a k cap/\SS W a k y/\∀j,j<k->gC (y.getD j []) (l.getD j []):=by
 rcases Nat.eq_zero_or_pos k with al|al
 ·subst al;obtain⟨us,F,_⟩:=f;rcases F.2 with⟨rfl,_⟩|⟨g,cap,av,rfl,_⟩
  ·exact⟨none,0,[],rfl,⟨rfl,.inl rfl⟩,λj hj=>absurd hj (Nat.not_lt_zero _)⟩
  exact⟨_,cap,[],rfl,⟨rfl,.inl rfl⟩,λj hj=>absurd hj (Nat.not_lt_zero _)⟩
 obtain⟨g,cap,rfl,_,aJ,ah⟩:=f.cell al
 have h:∀j,∃zs:List Nat,j<k->∃b c,W.cell? ⟨g,j,none⟩=some (.slice b zs.length c)/\zs.length<=c/\FS W 0 W.heap.size b zs.length zs/\gC zs (l.getD j []):=λj=>by
  by_cases hj:j<k
  ·obtain⟨b,m,c,F,N,_⟩:=ah j hj
   obtain⟨G,q,ar,zs,e,a1,U,a3⟩:=N
   cases e
   have e:=U.len
   subst e
   exact⟨zs,λ_=>⟨b,c,F,a1,U,a3⟩⟩
  ·exact⟨[],λc=>absurd c hj⟩
 obtain⟨bg,aX⟩:=Classical.axiomOfChoice h;refine⟨_,cap,(List.range k).map bg,rfl,⟨by simp,.inr ⟨g,0,rfl,aJ,λj hj=>?_⟩⟩,λj hj=>?_⟩
 ·rw[tX bg hj,Nat.zero_add];obtain⟨b,c,a1,U,a3,_⟩:=aX j hj;exact⟨b,c,a1,U,a3⟩
 rw[tX bg hj];obtain⟨b,c,_,_,_,a4⟩:=aX j hj;exact a4
def opl(v:Vl)(Vs:List (List Nat))(q:Nat):List (List Nat):=[if 0<q then Vs.getD v.a.toNat [] else[],if 1<q then Vs.getD v.b.toNat [] else[],if 2<q then Vs.getD v.c.toNat [] else[]]
def kop(v:Vl)(Vs:List (List Nat)):List Nat:=iL v.op v.len v.c v.k ((opl v Vs (cnt v.op)).getD 0 []) ((opl v Vs (cnt v.op)).getD 1 []) ((opl v Vs (cnt v.op)).getD 2 [])
theorem G5(v){q}(ap:q<cnt v.op):(fe v).getD q 0=[v.a,v.b,v.c].getD q 0:=by
 unfold fe;rw[yai,yai,List.getElem?_take_of_lt ap]
theorem LV.put(f:LV w g n n l)(hj:j<n)(af:l.length=n)(q:Kept 0 0 w B){m}(aB:Cl B (.slice b m c) x):
  LV (B.setCell ⟨g,j,none⟩ (.slice b m c)) g n n (l.set j x):=by
 have Q:=f.keep q;obtain⟨bE,ci,c0,ah,_⟩:=Q.at_ j hj;refine⟨by simpa using Q.lt,λo=>by simp[Q.free o],λi hi=>?_⟩;by_cases e:i=j
 ·subst e;refine⟨b,m,c,fy _ _ _ _ _ ah,λ_=>?_⟩;rw[yai,List.getElem?_set,hD rfl,hD xaa];exact aB.setS ah (nz _ _ _) _
 obtain⟨R,m1,c1,F,N⟩:=Q.at_ i hi;refine⟨R,m1,c1,by rw[eQ _ _ _ _ _ _ (.inr (Ne.symm e))];exact F,λh=>?_⟩;rw[yai,List.getElem?_set,hC (Ne.symm e),<-yai];exact(N h).setS ah (nz _ _ _) _
theorem Ec(w:World):LV (w.alloc (.cells #[.slice none 0 0,.slice none 0 0,.slice none 0 0] 215)) w.heap.size 3 3 [[],[],[]] where
 lt:=by simp
 free:=λo=>by simp
 at_:=λj hj=>by
  have:j=0\/j=1\/j=2:=xaa
  refine⟨none,0,0,?_,λ_=>?_⟩
  ·rcases this with rfl|rfl|rfl<;>simp
  ·rcases this with rfl|rfl|rfl<;>exact Cl.nil _
theorem xM(w R aS aa Z c1 n2 c2 ab c3 ins vs outs)(f:GS w R Z aS n2 aa ab ins vs outs)(b8:Z<=1000000)(cg:n2<=1000000)(cO:ab<=1000000):
  Calls prog 139 #[eZ R Z c1 aS n2 c2 aa ab c3] w λe B=>∃a1 aH U bf a3 Y,e=.returned (eZ a1 Z aH U n2 bf a3 ab Y)/\B.ownsRow w.heap.size 3 1 (.slice a1 Z aH) Z (ins.map (Value.int .i64))/\B.ownsRow w.heap.size 62 6 (.slice U n2 bf) n2 (fF vs)/\B.ownsRow w.heap.size 3 1 (.slice a3 ab Y) ab (outs.map (Value.int .i64))/\
   (Apart (.slice U n2 bf) (.slice a1 Z aH)/\Apart (.slice U n2 bf) (.slice a3 ab Y)/\Apart (.slice a1 Z aH) (.slice a3 ab Y))/\Kept 0 0 w B:=by
 obtain⟨bW,hi,b4,b3,b0⟩:=info_parts yz;have aw:=ez 0 0 w (e9 R Z c1 aS n2 c2 aa ab c3);have ak:=ez 0 0 (w.alloc (e9 R Z c1 aS n2 c2 aa ab c3)) fJ;have av:E _:=(fB w _ _ _).keep ak;have bC:=iN (w.alloc (e9 R Z c1 aS n2 c2 aa ab c3));rw[show(w.alloc _).heap.size=w.heap.size+1 by simp]at bC;have HR:E _:=bC;have HK:E _:=aw.trans ak;have b7:E _:=f.i.keep (aw.trans ak) yaa;have s:E _:=f.v.keep (aw.trans ak) yaa;have r:E _:=f.o.keep (aw.trans ak) yaa;clear f bC aw ak;obtain⟨_,aY,aC,aL⟩:=av.o;go_enter func139,ntmps139;go_upto_region 2 with fail;generalize (w.alloc _).alloc _=ag at av HR HK b7 s r aY aC aL⊢;have bm:E _:=Qq s.o;go_wp2_with (first|(at_builtin;refine ml _ rfl _ _ _ rfl ag.heap.size 62 _ _ 6 _ underlying24 hi b4 b3 b0 rfl xab rfl _ _ _ _ rfl ?c0 bm.o ?c2 ?c3 ?c4 ?c5 ?_))
 case c0=>rw[sV,s.o.len]
 case c2=>exact Po _
 case c3=>unfold maxLen;omega
 case c4=>omega
 case c5=>exact yad
 intro v' aF H o;obtain⟨U,bf,rfl⟩:=im H;have aR:=gm o (λk O=>by cases O) hI yad;have ae:E _:=H;have aK:E _:=aR;clear H o bm aY aC aL aR;obtain⟨_,aY,aC,aL⟩:=G0.keep av.o aK.o;have m:=IS.keep b7.o aK.o yaa;have c7:E _:=m;have p:E _:=IS.keep r.o aK.o yaa;have cj:E _:=G0.keep av.o aK.o;have X:E _:=RB.keep HR.o aK.o;have bY:E (w.heap.size+1<ag.heap.size/\w.heap.size<=ag.heap.size/\ag.heap.size<=aF.heap.size):=⟨HR.o.sz,HK.o.size,aK.o.size⟩
 clear m av HR b7 s r;go_wp2_with fail
 go_region_held3 (λB=>B.cell? ⟨w.heap.size,0,none⟩=some (.slice R Z c1)/\B.cell? ⟨w.heap.size,2,none⟩=some (.slice aa ab c3)) (first|go_keep|(simp only[jD _ _ _ _ _ _ _ bL];exact⟨br,a0⟩))
  (first
   |(go_at_call 50;refine yaj (nZ _ _ _ _ _ _ _ cO (IS.keep p.o i yaa)) ?_;rintro e bp ⟨a3,Y,rfl,bj,bQ⟩;have af:=Kept.trans i bQ;obtain⟨_,br,ay,a0⟩:=G0.keep cj.o af;obtain⟨_,bn,aX,bb,bz,bo,bw⟩:=RB.keep X.o af;have bL:w.heap.size≠w.heap.size+1:=by omega)
   |(go_at_call 50;refine yaj (nZ (aF.drewN 1) _ _ _ _ _ _ b8 (IS.keep c7.o (eJ 0 0 _ 1) yaa)) ?_;rintro e bc ⟨a1,aH,rfl,cn,bM⟩;have i:=Kept.trans (eJ 0 0 _ 1) bM;obtain⟨_,aZ,ax,aU⟩:=G0.keep cj.o i))
 go_wp2_with fail;obtain⟨ba,aP,y2⟩:=fp _ _ _ _ _ bn aX bb (.slice a1 Z aH) (.slice U n2 bf) (.slice a3 ab Y);have S:=ft bp (w.heap.size+1) (.slice a1 Z aH) (.slice U n2 bf) (.slice a3 ab Y);have al:(aF.drewN 1).heap.size=aF.heap.size:=rfl;have c8:=bM.size;have K:=bY.o
 have aB:∀{b e size n:Nat}{v:Value}{xs:List _}{W:World},W.ownsRow b e _ v n _->ag.heap.size<=b->Kept 0 0 W _->(((bp.setCell _ _).setCell _ _).setCell _ _).ownsRow w.heap.size e size v n xs:=λh hb k=>
  iE (f9 (eO h k) S (λg aJ=>hJ ((eH h aJ).1))) xaa
 refine yaz (v:=eZ a1 Z aH U n2 bf a3 ab Y) (by simp[results,results139,go_sem,ba,aP,y2]) rfl ⟨a1,aH,U,bf,a3,Y,rfl,aB cn xaa bQ,aB ae.o yad af,aB bj xaa hI,⟨sW ae.o cn xaa,sW ae.o bj xaa,sW cn bj yad⟩,Kept.new ((HK.o.trans aK.o).trans af) S xaa⟩
end
section
variable{r A:List (List Nat)}
theorem N3{op}(h:op≠11)(h':op≠12)(len C C' K P Q X):iL op len C K P Q X=iL op len C' K P Q X:=by
 unfold iL
 have e:gD op C K P Q X=gD op C' K P Q X:=by
  funext k;unfold gD;simp[h,h']
 have a9:i8 op len C P.length Q.length X.length=i8 op len C' P.length Q.length X.length:=by unfold i8 eV;simp[h,h']
 rw[e,a9]
theorem Ed{C J u v}(ae:u.op=v.op)(a9:u.len=v.len)(aS:u.k=v.k)(ai:cnt v.op<1->gC (r.getD u.a.toNat []) (C.getD v.a.toNat []))(b7:cnt v.op<3->u.c=v.c)(g:jf A)(X:jf J)
  (ar:0<cnt v.op->gC (A.getD u.a.toNat []) (J.getD v.a.toNat [])) (hb:1<cnt v.op->gC (A.getD u.b.toNat []) (J.getD v.b.toNat [])) (ah:2<cnt v.op->gC (A.getD u.c.toNat []) (J.getD v.c.toNat [])):gC (one r u A) (one C v J):=by
 unfold one;rw[ae,a9,aS];by_cases al:v.op=0
 ·rw[hD al,hD al];exact ai (by rw[al];decide)
 rw[hC al,hC al]
 have aB:∀(q:Prop) [Decidable q] (x y:List _),(q->gC x y)->gC (if q then x else[]) (if q then y else[]):=λq _ x y h=>by
  by_cases c:q
  ·rw[hD c,hD c];exact h c
  ·rw[hC c,hC c];rfl
 have e:iL v.op v.len u.c v.k=iL v.op v.len v.c v.k:=by
  by_cases c:cnt v.op<3
  ·rw[b7 c]
  funext a b d;exact N3 (λh=>c (by rw[h];decide)) (λh=>c (by rw[h];decide)) _ _ _ _ _ _ _
 rw[e];exact m9 (aB _ _ _ ar) (aB _ _ _ hb) (aB _ _ _ ah) (lr (g _)) (lr (X _))
theorem zK{op len C K k P Q X}(h:k<(iL op len C K P Q X).length):(iL op len C K P Q X).getD k 0=gD op C K P Q X k:=by
 unfold iL at h⊢;split at h
 ·rename_i c;rw[hD c];have h':k<len.toNat:=by simpa using h
  simp[List.getD_eq_getElem?_getD,h']
 cases h
theorem Ee(op len C K K' P Q X):(iL op len C K P Q X).length=(iL op len C K' P Q X).length:=by
 unfold iL;by_cases c:i8 op len C P.length Q.length X.length=true
 ·rw[hD c,hD c];simp
 rw[hC c,hC c]
theorem Ef{u v}(h:FN u v=true):gC (one r u A) (one r v A):=by
 unfold FN at h;simp only[Bool.and_eq_true,beq_iff_eq,Bool.or_eq_true,bne_iff_ne]at h;obtain⟨⟨aC,aL,b1,ba,cn⟩,bF⟩:=h;unfold one;rw[aC,aL,b1,ba,cn];rw[aC]at bF;split
 ·rfl
 rcases bF with bF|bF
 ·rw[G4 bF _ _ _ v.k];rfl
 by_cases c:v.op=1
 ·rw[c];have af:=Ee 1 v.len v.c u.k v.k (if 0<cnt 1 then A.getD v.a.toNat [] else[]) (if 1<cnt 1 then A.getD v.b.toNat [] else[]) (if 2<cnt 1 then A.getD v.c.toNat [] else[]);refine so af λk O=>?_;rw[zK O,zK (hM af O)];exact bF
 rw[G4 c _ _ _ v.k];rfl
theorem Eg{ins us i}(h:∀j,j<i->okV ins us j=true):(List.range i).all (okV ins us)=true:=List.all_eq_true.2 λj hj=>h j (List.mem_range.1 hj)
theorem vC{ins r C us vs}(af:Lk us vs)(an:∀j,gC (r.getD j []) (C.getD j []))(cd:jf r)(f:jf C)(aw:Kb us)(ak:Kb vs):∀i,(∀j,j<i->okV ins vs j=true)->∀j,j<i->gC ((fV r us i).getD j []) ((fV C vs i).getD j [])
 |0,_,j,hj=>by omega
 |i+1,h,j,hj=>by
  have G:=vC af an cd f aw ak i (λj hj=>h j xaa)
  have g:=sC cd (λk=>aw.at_ k) i
  have X:=sC f (λk=>ak.at_ k) i
  by_cases c:j<i
  ·rw[lI _ _ c,lI _ _ c]
   exact G j c
  ·have:j=i:=xaa
   subst this
   rw[oW,oW]
   have bz:=qe (h j xaa)
   have e:=af.at_ j
   generalize us.getD j _=u at*
   generalize vs.getD j _=v at*
   unfold cv at e
   injection e with ae a9 ai e4 b7 aS
   refine jP (Ef ?_) (Ed rfl rfl rfl (λ_=>an _) (λ_=>rfl) g X (λc=>G _ (hJ (bz _ (wJ xaa)))) (λc=>G _ (hJ (bz _ (wK xaa)))) (λc=>G _ (hJ (bz _ (wL xaa)))))
   unfold FN
   simp[ae,a9,ai,e4,b7,aS]
