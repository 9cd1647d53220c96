import Derived.Test.YtcagphgmfbjneaaGreatP16
import Derived.Test.YtcagphgmfbjneaaGreatP23
namespace Go.Proofs.Z
open Tryz
set_option maxRecDepth 1000000
set_option maxHeartbeats 0
section
open Go.RowKit Flt
attribute[local go_sem] eE eD eC
variable{w B:World}{g n k:Nat}{a:Option Addr}{xs:List Nat}{be co:Nat->Nat}{xss:List (List Nat)}
structure FO(w:World)(g n:Nat)(xs:List Nat):Prop where
 len:xs.length=n
 bnd:∀x∈xs,x<18446744073709551616
 lt:g<w.heap.size
 at_:∀k,k<n->w.cell? ⟨g,k,none⟩=some (.float .f64 (xs.getD k 0))
 free:∀o,w.frozen? ⟨g,o,none⟩=false
theorem FO.keep{l h}(f:FO w g n xs)(k:Kept l h w B)(aO:g<l\/h<=g\/h<=l):FO B g n xs:=
 ⟨f.len,f.bnd,yak f.lt k.size,λj hj=>by rw[k.cell (p:=⟨g,j,none⟩) f.lt (by grind)];exact f.at_ j hj,λo=>by rw[k.frozen (p:=⟨g,o,none⟩) f.lt (by grind)];exact f.free o⟩
theorem FO.fs(f:FO w g n xs):FS w 0 w.heap.size (some ⟨g,0,none⟩) n xs:=
 ⟨f.len,f.bnd,.inr ⟨g,0,rfl,yae,f.lt,f.lt,λk O=>by rw[Nat.zero_add];exact f.at_ k O⟩⟩
structure SS(w:World)(a:Option Addr)(n:Nat)(xss:List (List Nat)):Prop where
 len:xss.length=n
 at_:n=0\/∃g off,a=some ⟨g,off,none⟩/\g<w.heap.size/\∀k,k<n->∃b c,w.cell? ⟨g,off+k,none⟩=some (.slice b (xss.getD k []).length c)/\(xss.getD k []).length<=c/\FS w 0 w.heap.size b (xss.getD k []).length (xss.getD k [])
theorem FS.keep0(f:FS w 0 w.heap.size a n xs)(k:Kept 0 0 w B):FS B 0 B.heap.size a n xs:=
 (f.keep k yaa).mono yad k.size
theorem SS.keep(f:SS w a n xss)(k:Kept 0 0 w B):SS B a n xss:=
 ⟨f.len,by
  rcases f.at_ with ak|⟨g,off,e,F,h2⟩
  ·exact .inl ak
  ·refine .inr ⟨g,off,e,yak F k.size,λj hj=>?_⟩
   obtain⟨b,c,b5,a0,b9⟩:=h2 j hj
   exact⟨b,c,iI k F b5,a0,b9.keep0 k⟩⟩
structure SP(w:World)(g n k:Nat)(gf cf:Nat->Nat)(xss:List (List Nat)):Prop where
 lt:g<w.heap.size
 free:∀o,w.frozen? ⟨g,o,none⟩=false
 cell:∀j,j<k->w.cell? ⟨g,j,none⟩=some (.slice (some ⟨gf j,0,none⟩) (xss.getD j []).length (cf j))
 rest:∀j,j<n->∃u,w.cell? ⟨g,j,none⟩=some u
 cap:∀j,j<k->(xss.getD j []).length<=cf j
 own:∀j,j<k->FO w (gf j) (xss.getD j []).length (xss.getD j [])
 up:∀j,j<k->g<gf j
 inc:∀i j,i<j->j<k->gf i<gf j
theorem SP.keep(f:SP w g n k be co xss)(q:Kept 0 0 w B):SP B g n k be co xss:=
 ⟨yak f.lt q.size,λo=>by rw[q.frozen (p:=⟨g,o,none⟩) f.lt xaa];exact f.free o,λj hj=>iI q f.lt (f.cell j hj),λj hj=>(f.rest j hj).imp λ_ h=>iI q f.lt h,f.cap,λj hj=>(f.own j hj).keep q yaa,f.up,f.inc⟩
def upd(f:Nat->Nat)(k x:Nat):Nat->Nat:=λj=>if j=k then x else f j
theorem mQ(f k x):upd f k x k=x:=h7 rfl
theorem kj{f x j}(h:j≠k):upd f k x j=f j:=h6 h
theorem SP.step(f:SP w g n k be co xss)(O:k<n)(q:Kept 0 0 w B){G c}
  (ho:FO B G (xss.getD k []).length (xss.getD k [])) (br:w.heap.size<=G) (al:(xss.getD k []).length<=c):
  SP (B.setCell ⟨g,k,none⟩ (h0 G (xss.getD k []).length c)) g n (k+1) (upd be k G) (upd co k c) xss:=by
 have t:=f.keep q;have ai:=f.lt;have aL:∀v,Kept g (g+1) B (B.setCell ⟨g,k,none⟩ v):=λv=>eU B ⟨g,k,none⟩ v yac;obtain⟨u,a6⟩:=t.rest k O;refine⟨by simpa using t.lt,λo=>by simp[t.free o],λj hj=>?_,λj hj=>?_,λj hj=>?_,λj hj=>?_,λj hj=>?_,λi j e2 hj=>?_⟩
 ·by_cases e:j=k
  ·subst e;rw[mQ,mQ];exact fy _ _ _ _ _ a6
  rw[kj e,kj e,eV _ _ _ _ _ _ (.inr (Ne.symm e))];exact t.cell j xaa
 ·by_cases e:j=k
  ·subst e;exact⟨_,fy _ _ _ _ _ a6⟩
  rw[eV _ _ _ _ _ _ (.inr (Ne.symm e))];exact t.rest j hj
 ·by_cases e:j=k
  ·subst e;rw[mQ];exact al
  rw[kj e];exact f.cap j xaa
 ·by_cases e:j=k
  ·subst e;rw[mQ];exact ho.keep (aL _) xaa
  rw[kj e];exact(t.own j xaa).keep (aL _) (ix (f.up j xaa))
 ·by_cases e:j=k
  ·subst e;rw[mQ];omega
  rw[kj e];exact f.up j xaa
 by_cases e:j=k
 ·subst e;rw[mQ,kj xaa];have:=(f.own i xaa).lt;omega
 rw[kj e,kj xaa];exact f.inc i j e2 xaa
theorem SP.ss(f:SP w g n n be co xss)(ai:xss.length=n):SS w (some ⟨g,0,none⟩) n xss:=
 ⟨ai,.inr ⟨g,0,rfl,f.lt,λk O=>⟨_,_,by rw[Nat.zero_add];exact f.cell k O,f.cap k O,(f.own k O).fs⟩⟩⟩
theorem GH:(prog.info? 56).map (λi=>(i.zero,i.size,i.bytes))=some (some (.slice none 0 0),1,24):=by kernel_rfl
theorem Od(n:Nat)(w)(ag:n<=1099511627776):
  (Instr.makeSlice 30 (h1 n) (h1 n)).run prog w=.ok (h0 w.heap.size n n) (w.alloc (.cells (madeCells #[.slice none 0 0] n) 56)):=by
 obtain⟨i,hi,hz0,hz1,hz2⟩:=info_parts GH;have:=run_make (P:=prog) w 30 56 i (.slice none 0 0) underlying30 hi hz0 .i64 .i64 n n xaa xaa (by grind) xaa;exact qcb
theorem SP.made(w:World)(n be co xss):SP (w.alloc (.cells (madeCells #[.slice none 0 0] n) 56)) w.heap.size n 0 be co xss where
 lt:=by simp
 free:=λo=>by simp
 cell:=λj hj=>absurd hj (Nat.not_lt_zero _)
 rest:=λj hj=>by
  simp_all[madeCells]
 cap:=λj hj=>absurd hj (Nat.not_lt_zero _)
 own:=λj hj=>absurd hj (Nat.not_lt_zero _)
 up:=λj hj=>absurd hj (Nat.not_lt_zero _)
 inc:=λi j _ hj=>absurd hj (Nat.not_lt_zero _)
end
section
open Go.RowKit Flt
variable{x y u K U:Nat}{xs ys l N P g m J:List Nat}{op len C:Int}
theorem vY(ap:x<18446744073709551616)(bp:y<18446744073709551616)(h:fb x=fb y):fb (Op.negFloat .f64 x)=fb (Op.negFloat .f64 y):=by
 rcases mO h with rfl|⟨a,b⟩
 ·rfl
 have Y:∀z,z<18446744073709551616->(f64.read z).isNaN=true->(f64.read (Op.negFloat _ z)).isNaN=true:=λz a5 ag=>by
  obtain⟨s,r,aF,rfl⟩:=mX z a5
  rw[ML s aF]
  rcases Nat.lt_or_ge 9218868437227405312 r with c|c
  ·rw[show f64.read _=_ from qn c aF];rfl
  ·have:=qo (s:=s) c
   rw[xo,ag]at this
   cases this
 exact vG (Y x ap a) (Y y bp b)
theorem vB(h:fb x=fb u)(h':fb y=fb U):fb (jP x y)=fb (jP u U):=by
 have e:FloatKind.f64.format.order x y=FloatKind.f64.format.order _ _:=jX h h';unfold jP;rw[e];split
 ·exact h
 exact h'
theorem xV{z b}(h:fb x=fb u)(h':fb y=fb U)(a:fb z=fb b):fb (ir x y z)=fb (ir u U b):=by
 have e:FloatKind.f64.format.order x 0=FloatKind.f64.format.order _ 0:=jX h rfl;unfold ir;rw[e];split
 ·exact h'
 exact a
theorem DT(h:fb x=fb y):fb (sF x)=fb (sF y):=by
 have af:FloatKind.f64.format.order x x=FloatKind.f64.format.order y y:=jX h h;have bg:FloatKind.f64.format.order x 4652007308841189376=FloatKind.f64.format.order y _:=jX h rfl;have ah:FloatKind.f64.format.order x 13875379345695965184=FloatKind.f64.format.order y _:=jX h rfl;unfold sF;rw[af,bg,ah,gn _ h rfl];split
 ·exact h
 rfl
theorem BA(h:fS xs ys)(ak:0<xs.length):fb (lB xs)=fb (lB ys):=by
 have ai:=jp h
 have Y:∀k,0<k->k<=xs.length->fb (lB (xs.take k))=fb (lB (ys.take k)):=λk=>by
  induction k with
  |zero=>intro c;omega
  |succ k G=>
   intro _ O
   rcases Nat.eq_zero_or_pos k with c|c
   ·subst c
    rw[qC _ ak,qC _ xaa]
    exact gD h 0
   ·rw[pq _ k c xaa,pq _ k c xaa,gn _ (G c xaa) (gD h k)]
 have:=Y _ ak yad;rw[yap yad,yap xaa]at this;exact this
theorem Kl{S X f}(h:jQ op len C S X f=true)(ae:op=9):0<S:=by
 subst ae;simp[jQ,eQ,cnt,lenB]at h;omega
theorem BB{k}(az:fS l g)(hb:fS N m)(al:fS P J)(S:∀x∈l,x<18446744073709551616)(a:∀x∈g,x<18446744073709551616)(ae:op=9->0<l.length):
  fb (gS op C K l N P k)=fb (gS op C K g m J k):=by
 unfold gS;by_cases c:op=1
 ·rw[h7 c,h7 c]
 rw[h6 c,h6 c];clear c;by_cases c:op=2
 ·exact xex
 rw[h6 c,h6 c];clear c;by_cases c:op=3
 ·exact xex
 rw[h6 c,h6 c];clear c;by_cases c:op=4
 ·exact xex
 rw[h6 c,h6 c];clear c;by_cases c:op=5
 ·exact xex
 rw[h6 c,h6 c];clear c;by_cases c:op=6
 ·rw[h7 c,h7 c];exact vY (gh S k) (gh a k) (gD az k)
 rw[h6 c,h6 c];clear c;by_cases c:op=7
 ·rw[h7 c,h7 c];exact vB (gD az k) (gD hb k)
 rw[h6 c,h6 c];clear c;by_cases c:op=8
 ·rw[h7 c,h7 c];exact xV (gD az k) (gD hb k) (gD al k)
 rw[h6 c,h6 c];clear c;by_cases c:op=9
 ·rw[h7 c,h7 c];exact BA az (ae c)
 rw[h6 c,h6 c];clear c;by_cases c:op=10
 ·rw[h7 c,h7 c];exact gD az 0
 rw[h6 c,h6 c];clear c;by_cases c:op=11
 ·rw[h7 c,h7 c];exact gD az _
 rw[h6 c,h6 c];clear c;by_cases c:op=12
 ·rw[h7 c,h7 c];by_cases d:k=C.toNat
  ·rw[h7 d,h7 d];exact gD az 0
  rw[h6 d,h6 d]
 rw[h6 c,h6 c];exact DT (gD az k)
theorem nF(az:fS l g)(hb:fS N m)(al:fS P J)(S:∀x∈l,x<18446744073709551616)(a:∀x∈g,x<18446744073709551616):
  fS (jN op len C K l N P) (jN op len C K g m J):=by
 unfold jN;rw[<-jp az,<-jp hb,<-jp al];cases ba:jQ op len C l.length N.length P.length
 ·rfl
 rw[h7 rfl,h7 rfl];refine pd xac λk O=>?_;have G:k<len.toNat:=by simpa using O
 have e:=BB (C:=C) (K:=K) (k:=k) az hb al S a (λae=>Kl ba ae);simpa[List.getD_eq_getElem?_getD,G] using e
theorem mg{zs}(h:fS xs ys)(h':fS ys zs):fS xs zs:=Eq.trans h h'
theorem DU(h:fS xs ys):fS ys xs:=Eq.symm h
def one(xss:List (List Nat))(v:Vl)(Vs:List (List Nat)):List Nat:=
 if v.op=0 then xss.getD v.a.toNat [] else
  jN v.op v.len v.c v.k (if 0<cnt v.op then Vs.getD v.a.toNat [] else[]) (if 1<cnt v.op then Vs.getD v.b.toNat [] else[]) (if 2<cnt v.op then Vs.getD v.c.toNat [] else[])
def inB(ins:List Int)(xss:List (List Nat)):Bool:=decide (xss.length=ins.length)&&(List.range ins.length).all λi=>((xss.getD i []).length:Int)==ins.getD i 0
theorem GI(h:jQ op len C l.length N.length P.length=true):(jN op len C K l N P).length=len.toNat:=by
 unfold jN;rw[h7 h];simp
end
section
open Go.RowKit Flt
attribute[local go_sem] eE eD eC
variable{w:World}{v:Value}{xs l N P:List Nat}
theorem DV(w lo hi a b n m bc cb ins xss)(f:IS w lo hi a n ins)(g:SS w b m xss)(ag:n<=1099511627776):
  Calls prog 32 #[.slice a n bc,.slice b m cb] w λe B=>e=.returned (.bool (inB ins xss))/\Drawn w B:=by
 have aD:V _:=f;have bv:V _:=g;have HL:V (ins.length=n/\xss.length=m):=⟨f.len,g.len⟩
 clear f g;by_cases al:m=n
 ·subst al;go_enter func32,ntmps32;go_wp2_with fail;go_loop [14] (λi=>∃k:Nat,k<=m/\i=h1 k/\V ((List.range k).all (λi=>((xss.getD i []).length:Int)==ins.getD i 0)=true)) (λi=>m-(intOf i).toNat)
  case atStart=>exact⟨0,yae,rfl,rfl⟩
  case round=>
   obtain⟨k,O,rfl,be⟩:=hrel;by_cases hlt:k<m
   ·rcases aD.o.at_ with bP|⟨d,bL,bS,aR,bd,bu,bC⟩
    ·omega
    rcases bv.o.at_ with bP|⟨aa,aZ,ck,aJ,y2⟩
    ·omega
    have c1:=bC k hlt;obtain⟨aV,z,c2,_,_⟩:=y2 k hlt;subst bS ck;clear aR bd bu bC aJ y2;cases ap:(((xss.getD k []).length:Int)==ins.getD k 0)
    ·have R:V (inB ins xss=false):=by
      show inB ins xss=false;unfold inB;rw[HL.o.1,jh (p:=λi=>((xss.getD i []).length:Int)==ins.getD i 0) hlt ap,Bool.and_false]
     have aj:(((xss.getD k []).length:Int) !=ins.getD k 0)=true:=by rw[bne,ap];rfl
     generalize (xss.getD k []).length=y at c2 aj;generalize ins.getD k 0=x at c1 aj;clear ap be;go_wp2;go_ret;exact⟨i4 R.o,Drawn.refl _⟩
    have R:V _:=ig (p:=λi=>((xss.getD i []).length:Int)==ins.getD i 0) be.o ap;have aj:(((xss.getD k []).length:Int) !=ins.getD k 0)=false:=by rw[bne,ap];rfl
    generalize (xss.getD k []).length=y at c2 aj;generalize ins.getD k 0=x at c1 aj;exact xhg
   have R:V (inB ins xss=true):=by
    exact xgp
   clear be;go_wp2;go_ret;exact⟨i4 R.o,Drawn.refl _⟩
 have e:inB ins xss=false:=by
  exact xiy
 rw[e];have t:((m:Int) !=(n:Int))=true:=by simp;omega
 go_enter func32,ntmps32;go_wp2;go_ret;exact⟨rfl,Drawn.refl _⟩
theorem FO.of_own{W base n}(h:W.ownsRow base 45 1 v n (xs.map (Value.float .f64)))(ag:0<n)(ai:xs.length=n)(hb:∀x∈xs,x<18446744073709551616):
  ∃g cap,v=h0 g n cap/\base<=g/\n<=cap/\FO W g n xs:=by
 rcases h.2 with⟨_,c⟩|⟨g,cap,ad,rfl,U,aV,aa,_,ct,bX⟩
 ·omega
 have aK:g<W.heap.size:=by grind
 refine⟨g,_,rfl,U,aa,ai,hb,aK,λj hj=>?_,λo=>frozen_of_row W g o _ _ aV⟩;rw[cell_of_row W g _ _ _ _ aV,<-Array.getElem?_toList];have:(ad.toList.take (n*1))[j]? =(xs.map (Value.float .f64))[j]?:=by rw[bX]
 grind
theorem tr{g off n}(ap:xs.length=n)(al:∀k,k<n->w.cell? ⟨g,off+k,none⟩=some (.float .f64 (xs.getD k 0))):
  ∀j u,(xs.map (Value.float .f64))[j]? =some u->w.cell? ((⟨g,off,none⟩:Addr).add j)=some u:=λj u a6=>by
 have hj:j<n:=by grind
 have F:=al j hj
 have e:(⟨g,off,none⟩:Addr).add j=⟨g,off+j,none⟩:=by grind[Addr.add]
 simp_all
theorem P8(w g off n c xs)(ag:1<=n)(bv:n<=1000000)(aK:g<w.heap.size)(ap:xs.length=n)(hlt:∀x∈xs,x<18446744073709551616)(al:∀k,k<n->w.cell? ⟨g,off+k,none⟩=some (.float .f64 (xs.getD k 0))):
  Calls prog 33 #[.slice (some ⟨g,off,none⟩) n c] w λe B=>∃G cap,e=.returned (h0 G n cap)/\n<=cap/\FO B G n xs/\w.heap.size<=G/\Kept 0 0 w B:=by
 obtain⟨b1,hi,hz0,hz1,hz2⟩:=info_parts vH
 have a:(binOp .eql 56 (.slice (some ⟨g,off,none⟩) n c) (.slice none 0 0)).run prog w=.ok (.bool false) w:=by
  simp only[binOp];simp[run_equal_slice_nil w 56 45 (some ⟨g,off,none⟩) n c underlying56]
 have bj:=eA 0 0 w (.cells #[] 45);have HN:V _:=tr (w:=w.alloc (.cells #[] 45)) (g:=g) (off:=off) ap (λk O=>iI bj aK (al k O));have HO:V _:=World.ownsRow_made (base:=w.heap.size) (e:=45) (size:=1) w #[] 0 yad xaa rfl;have ai:V _:=bj;have HX:V (xs.length=n):=ap;have aG:V _:=hlt;clear al ap hlt bj;go_enter func33,ntmps33;go_wp2_with (first|(at_builtin;refine wpList_append_own _ rfl _ _ 56 rfl w.heap.size 45 b1 (.float .f64 0) 1 8 underlying56 hi hz0 hz1 hz2 rfl xab _ _ _ rfl HO.o ⟨g,off,none⟩ n c (xs.map (Value.float .f64)) rfl ?c0 HN.o ?c2 ?c3 ?c4 ?c5 ?_))
 case c0=>exact HX.o
 case c2=>intro u a6;rfl
 case c3=>unfold maxLen;omega
 case c4=>omega
 intro v' bn bU bK _;obtain⟨G,cap,rfl,U,aV,aa⟩:=FO.of_own bU xaa HX.o aG.o;have R:V _:=iK (base:=w.heap.size) bK (λk O=>by have:w.heap.size=k:=(by simpa[Value.ownBlock] using O);omega) ai.o yad;clear bU bK;go_wp2;go_ret;exact⟨G,cap,rfl,aV,aa,U,R.o⟩
def Cl(w:World)(v:Value)(xs:List Nat):Prop:=∃b n c zs,v=.slice b n c/\n<=c/\FS w 0 w.heap.size b n zs/\fS zs xs
theorem Cl.keep{B}(h:Cl w v xs)(k:Kept 0 0 w B):Cl B v xs:=by
 obtain⟨b,n,c,zs,F,h2,h3,h4⟩:=h;exact⟨b,n,c,_,F,h2,h3.keep0 k,h4⟩
theorem Cl.nil(w):Cl w (.slice none 0 0) []:=⟨none,0,0,[],rfl,yad,⟨rfl,by simp,.inl rfl⟩,rfl⟩
def Cn(w:World)(lo:Nat)(v:Value)(xs:List Nat):Prop:=∃b n c zs,v=.slice b n c/\n<=c/\FS w lo w.heap.size b n zs/\fS zs xs
theorem Cn.cl{lo}(h:Cn w lo v xs):Cl w v xs:=by
 obtain⟨b,n,c,zs,F,h2,h3,h4⟩:=h;exact⟨b,n,c,_,F,h2,h3.mono yae yad,h4⟩
theorem zQ(w)(v:Vl)(aG:v.k<18446744073709551616)(x y z l N P)(az:Cl w x l)(hb:Cl w y N)(al:Cl w z P)(S:∀q∈l,q<18446744073709551616):
  Calls prog 162 #[v.agg,x,y,z] w λe B=>∃u,e=.returned u/\Cn B w.heap.size u (jN v.op v.len v.c v.k l N P)/\Kept 0 0 w B:=by
 obtain⟨a,d,bc,f,rfl,a1,J,a3⟩:=az;obtain⟨b,an,cb,I,rfl,U,aV,aa⟩:=hb;obtain⟨c,aO,aK,g,rfl,c1,c2,c3⟩:=al;refine(zO w v.op v.len v.a v.b v.c v.k aG J aV c2 a1).mono ?_;rintro e B ⟨am,n,cap,zs,rfl,ho,aw,O,ag⟩;exact⟨_,rfl,⟨am,n,cap,zs,rfl,ag,ho.fs,mg aw (nF a3 aa c3 J.lt S)⟩,O⟩
theorem zR(w)(v:Vl)(aG:v.k<18446744073709551616)(x y z l N P)(az:Cl w x l)(hb:Cl w y N)(al:Cl w z P)(S:∀q∈l,q<18446744073709551616):
  Calls prog 51 #[v.agg,x,y,z] w λe B=>∃u,e=.returned u/\Cn B w.heap.size u (jN v.op v.len v.c v.k l N P)/\Kept 0 0 w B:=by
 obtain⟨a,d,bc,f,rfl,a1,J,a3⟩:=az;obtain⟨b,an,cb,I,rfl,U,aV,aa⟩:=hb;obtain⟨c,aO,aK,g,rfl,c1,c2,c3⟩:=al;refine(zP w v.op v.len v.a v.b v.c v.k aG J aV c2 a1).mono ?_;rintro e B ⟨am,n,cap,zs,rfl,ho,aw,O,ag⟩;exact⟨_,rfl,⟨am,n,cap,zs,rfl,ag,ho,mg aw (nF a3 aa c3 J.lt S)⟩,O⟩
theorem kT(op x y):cop op x y<18446744073709551616:=by
 unfold cop;cases h:floatBits op .f64 x y with
 |none=>decide
 |some r=>
  have:=floatBits_wf h;simpa[Lit.wf] using this
theorem Km{x}(ap:x<18446744073709551616):sF x<18446744073709551616:=by
 unfold sF;split
 ·exact ap
 split
 ·decide
 split
 ·decide
 exact kT _ _ _
theorem CB:∀(xs:List Nat) (x:Nat),x<18446744073709551616->xs.foldl (cop .add) x<18446744073709551616
 |[],_,h=>h
 |y::ys,x,_=>CB ys (cop .add x y) (kT _ _ _)
theorem Kn(h:∀x∈xs,x<18446744073709551616):lB xs<18446744073709551616:=by
 cases xs with
 |nil=>decide
 |cons x r=>exact CB r x (h x xac)
theorem mh{p}[Decidable p]{x y}(ap:x<18446744073709551616)(bp:y<18446744073709551616):(if p then x else y)<18446744073709551616:=by
 grind
theorem Ko{op C K}(aG:K<18446744073709551616)(az:∀x∈l,x<18446744073709551616)(hb:∀x∈N,x<18446744073709551616)(al:∀x∈P,x<18446744073709551616)(k):gS op C K l N P k<18446744073709551616:=by
 have cg:=gh az;have bL:=gh hb;have c0:=gh al;unfold gS jP ir;exact mh aG (mh (kT _ _ _) (mh (kT _ _ _) (mh (kT _ _ _) (mh (kT _ _ _) (mh (nh (cg _)) (mh (mh (cg _) (bL _)) (mh (mh (bL _) (c0 _)) (mh (Kn az) (mh (cg _) (mh (cg _) (mh (mh (cg _) xab) (Km (cg _)))))))))))))
theorem Kp{op len C K}(aG:K<18446744073709551616)(az:∀x∈l,x<18446744073709551616)(hb:∀x∈N,x<18446744073709551616)(al:∀x∈P,x<18446744073709551616):∀x∈jN op len C K l N P,x<18446744073709551616:=by
 unfold jN;split<;>simp_all[Ko]<;>grind
def jd(xss:List (List Nat)):Prop:=∀k,∀x∈xss.getD k [],x<18446744073709551616
theorem nG{p}[Decidable p](h:∀x∈xs,x<18446744073709551616):∀x∈(if p then xs else[]),x<18446744073709551616:=by
 grind
end
section
open Go.RowKit Flt
attribute[local go_sem] eE eD
def xW(op:BinOp)(v:Nat):Nat->Nat
 |0=>v
 |k+1=>cop op (xW op v k) 4611686018427387904
def frV(b:Nat):Nat:=cop .quo (floatOfInt .f64 ((b%4503599627370496:Nat):Int)) 4841369599423283200
def sgV(b v:Nat):Nat:=if 9223372036854775808<=b then Op.negFloat .f64 v else v
def ffG(e Vaa:Nat):Nat:=xW .quo (xW .mul Vaa (e-1023)) (1023-e)
def ffV(b:Nat):Nat:=
 if b/4503599627370496%2048=2047 then if (f64.order (frV b) 0 !=some .eq)=true then cop .quo 0 0 else sgV b (cop .quo 4607182418800017408 0)
 else sgV b (if b/4503599627370496%2048=0 then ffG 1 (frV b)else ffG (b/4503599627370496%2048) (cop .add 4607182418800017408 (frV b)))
theorem CC{op v}(h:v<18446744073709551616):∀k,xW op v k<18446744073709551616
 |0=>h
 |_+1=>kT _ _ _
def FwO(w:World)(v:Nat)(e:Ending)(w':World):Prop:=∃y,e=.returned (.float .f64 y)/\fb y=fb v/\y<18446744073709551616/\∃m,w'=w.drewN m
theorem vZ(b:Nat)(w)(hb:b<18446744073709551616):Calls prog 106 #[.int .u64 (b:Int)] w (FwO w (ffV b)):=by
 have f1:=@kr prog;have f2:=@l9 prog;have f3:=@oA prog;have a:=lT;have aA:(b:Int)/4503599627370496%2048=((b/4503599627370496%2048:Nat):Int):=xaa;have ht:(b:Int)%4503599627370496=((b%4503599627370496:Nat):Int):=xaa;have ho:∀W,FloatKind.f64.format.order (fop .quo (floatOfInt .f64 ((b%4503599627370496:Nat):Int)) 4841369599423283200 W) 0=f64.order (frV b) 0:=λW=>jX (fV _ _ _ _) rfl;have HR:V (∀W,fb (fop .quo (floatOfInt .f64 ((b%4503599627370496:Nat):Int)) 4841369599423283200 W)=fb (frV b)):=λW=>fV _ _ _ _;obtain⟨Vaa,az⟩:∃Vaa,Vaa=ffV b:=⟨_,rfl⟩
 have H:frV b<18446744073709551616:=kT _ _ _;rw[<-az];unfold ffV at az;generalize frV b=r at ho HR az H;generalize b%4503599627370496=t at ht ho HR;have g:b/4503599627370496%2048<2048:=Nat.mod_lt _ xaa;generalize b/4503599627370496%2048=q at aA az g
 have au:V (∀{y v:Nat}{W:World},fb y=fb v->y<18446744073709551616->v<18446744073709551616->(∃m,W=w.drewN m)->Vaa=sgV b v->((9223372036854775808<=b->FwO w Vaa (.returned (.float .f64 (Op.negFloat .f64 y))) W)/\(¬9223372036854775808<=b->FwO w Vaa (.returned (.float .f64 y)) W))):=λF h2 h3 h4 bK=>by
  subst bK
  exact⟨λc=>⟨_,rfl,by rw[sgV,h7 c];exact vY h2 h3 F,nh h2,h4⟩,λc=>⟨_,rfl,by rw[sgV,h6 c];exact F,h2,h4⟩⟩
 by_cases bZ:q=2047
 ·subst bZ;replace aA:_=(2047:Int):=aA;rw[h7 rfl]at az;cases ak:(f64.order r 0 !=some .eq)
  ·rw[ak,h6 xac]at az;have F:FloatKind.f64.format.order (fop .quo (floatOfInt .f64 (t:Int)) 4841369599423283200 w) 0=some .eq:=by rw[ho];simpa using ak
   have bX:V _:=az;clear ho ak az;by_cases aw:9223372036854775808<=b
   all_goals
    first|have bJ:decide (9223372036854775808<=(b:Int))=true:=decide_eq_true xaa|have bJ:decide (9223372036854775808<=(b:Int))=false:=yay xaa
    go_enter func106,ntmps106
    go_wp2
    go_ret
    first|exact(au.o (fV _ _ _ _) (gF _ _ _ _) (kT _ _ _) ⟨_,rfl⟩ bX.o).1 aw|exact(au.o (fV _ _ _ _) (gF _ _ _ _) (kT _ _ _) ⟨_,rfl⟩ bX.o).2 aw
  rw[ak,h7 rfl]at az;have F:(FloatKind.f64.format.order (fop .quo (floatOfInt .f64 (t:Int)) 4841369599423283200 w) 0 !=some .eq)=true:=i1 ho ak
  clear ho ak;go_enter func106,ntmps106;go_wp2;go_ret;exact⟨_,rfl,by rw[az];exact fV _ _ _ _,gF _ _ _ _,_,rfl⟩
 rw[h6 bZ]at az;have O:((q:Int)==2047)=false:=yan xaa;clear ho
 obtain⟨e,G,br,Y,f,d⟩:∃e G,G<18446744073709551616/\(1<=e/\e<2047)/\Vaa=sgV b (ffG e G)/\(q=0/\e=1/\G=r\/0<q/\e=q/\G=cop .add 4607182418800017408 r):=by
  by_cases h:q=0
  ·exact⟨1,r,H,by omega,by rw[az,h7 h],.inl ⟨h,rfl,rfl⟩⟩
  exact⟨q,_,kT _ _ _,by omega,by rw[az,h6 h],.inr ⟨by omega,rfl,rfl⟩⟩
 have bX:V _:=f;have bv:V _:=br;clear az f br bZ;have bf:V (∀{op:BinOp}{y v:Nat} (W:World),fb y=fb v->fb (fop op y 4611686018427387904 W)=fb (cop op v 4611686018427387904)):=λW h=>by rw[fV,gn _ h rfl]
 have HD:V (∀W:World,fb (fop .add 4607182418800017408 (fop .quo (floatOfInt .f64 (t:Int)) 4841369599423283200 w) W)=fb (cop .add 4607182418800017408 r)):=λW=>by rw[fV,gn _ rfl (HR.o w)]
 have HE:V _:=Y;rcases d with⟨ak,F,h2⟩|⟨ak,F,h2⟩
 all_goals
  have HX:V (G=_):=h2
  have aX:V (e=_):=F
  clear h2 F Y
  go_enter func106,ntmps106
  go_wp2_with fail
  clear aA ht O ak
  have ai:=HE.o
  go_loopw [5,3] (λv x W=>∃j z:Nat,j<=e-1023/\v=.float .f64 z/\x=h1 ((e:Int)-j)/\V (fb z=fb (xW .mul G j)/\z<18446744073709551616/\∃m,W=w.drewN m)) (λ_ x _=>(intOf x).toNat)
  case atStart=>exact⟨0,_,yae,rfl,by rw[aX.o];simp,by rw[HX.o];first|exact HR.o _|exact HD.o _,gF _ _ _ _,_,rfl⟩
  case round=>
   obtain⟨j,z,hj,rfl,rfl,a5⟩:=hrel
   by_cases al:j<e-1023
   ·go_wp2
    go_roundw;exact⟨j+1,_,by omega,rfl,by go_num,bf.o _ a5.o.1,gF _ _ _ _,by obtain⟨_,_,m,rfl⟩:=a5.o;exact⟨_,World.drewN_drewN ..⟩⟩;simp[intOf];omega
   ·have HZ:V (fb z=fb (xW .quo (xW .mul G (e-1023)) 0)/\z<18446744073709551616/\∃m,wr=w.drewN m):=by
     obtain rfl:j=e-1023:=xaa
     exact a5.o
    obtain⟨u,a6,l⟩:∃u:Nat,(u:Int)=e-j/\u+(1023-e)=1023:=⟨e-j,by omega,by omega⟩
    rw[<-a6]
    have cJ:¬1023<(u:Int):=xaa
    clear a5 hj al a6
    go_wp2_with fail
    clear cJ
    go_loopw [5,3] (λv x W=>∃j z:Nat,j<=1023-e/\v=.float .f64 z/\x=h1 ((u:Int)+j)/\V (fb z=fb (xW .quo (xW .mul G (e-1023)) j)/\z<18446744073709551616/\∃m,W=w.drewN m)) (λ_ x _=>1023-(intOf x).toNat)
    case atStart=>exact⟨0,_,yae,rfl,by simp,HZ⟩
    case round=>
     obtain⟨j,z,hj,rfl,rfl,a5⟩:=hrel
     by_cases al:j<1023-e
     ·go_wp2
      go_roundw;exact⟨j+1,_,by omega,rfl,by go_num,bf.o _ a5.o.1,gF _ _ _ _,by obtain⟨_,_,m,rfl⟩:=a5.o;exact⟨_,World.drewN_drewN ..⟩⟩;simp[intOf];omega
     ·obtain rfl:j=1023-e:=xaa
      have aa:((u:Int)+((1023-e:Nat):Int))=1023:=xaa
      rw[aa]
      clear hj al aa
      by_cases aw:9223372036854775808<=b
      all_goals
       first|have bJ:decide (9223372036854775808<=(b:Int))=true:=decide_eq_true xaa|have bJ:decide (9223372036854775808<=(b:Int))=false:=yay xaa
       go_wp2
       go_ret
       have k:=au.o a5.o.1 a5.o.2.1 (CC (CC bv.o _) _) a5.o.2.2 bX.o
       first|exact k.1 aw|exact k.2 aw
end
section
open Go.RowKit Flt Ieee
abbrev vd(vs:List Vl)(i:Nat):Vl:=vs.getD i h9
theorem Oe{us r q}(h:q<us.length):vd (us++r) q=vd us q:=by
 unfold vd;rw[yai,yat h,<-yai]
