import Derived.Test.YtnlffngpnoodkaaGreatP31
import Derived.Laws.Cover3
import Derived.Test.YtnlffngpnoodkaaGreatP21
namespace Go.Proofs.YtnlffngpnoodkaaGreat
set_option maxRecDepth 1000000
set_option maxHeartbeats 0
open Go.RowKit Flt
attribute [local go_sem] ic ib ia
variable {w w' W':World} {op C o va vb vc:Int} {ins:List Int} {q x lo e size A base K j n g B k m1 e1 m3 c e3 m cap vk:Nat} {xss Vs:List (List Nat)} {row R R':Option Nat} {b1 a b3 b a2:Option Addr} {xs xa xb xc:List Nat} {us:List Value} {vs:List Vl} {x0 v x1 x2 u d f h i y l r s t z D F G H I J L O P Q S T U V X Y Z aa ab ad ae af ag ah ai aj ak al am an ao ap aq ar au av aw ax ay az aA aB aC aD aE aF aG aH aI aJ aK aL aM aN aO aP aQ aR aS aT aU aV aW aX aY aZ a0 a1 a3 a4 a5 a6 a7 a8 a9 ba bb bc bd be bf bg bh bi bj bk bl bm bn bo bp bq br bs bt bu bv bw bx bz bA bB bC dO bD bE bF bG bH bI bJ bK bL bM bN bO bP bQ bR bS bT bU bV bW bX bY bZ b0 b2 b4 b5 b6 b7 b8 b9 ca cb cc cd ce cf cg ch ci cj ck cm cn co cp cq cr cs ct cu cv cw cx cy cz cA cB cC cD cE cF cG cH cI cJ cK cL cM cN cO cP cQ cR cS cT cU cV cW cX cY cZ c5 da db dc dd de df dg dh di dj dk dl dm dp dq dr ds dt du dv dw dx dy dA dB dC dG dH dI dJ dD dK dE dL dF dM dN:Value}
theorem rK (w:World)(lo hi:Nat)(a b:Option Addr)(n m ca cb:Nat)(ins:List Int)(xss:List (List Nat))(f:IS w lo hi a n ins)(g:SS w b m xss)(hn:n<=1099511627776):
  Calls Tryz.prog 33 #[.slice a n ca,.slice b m cb] w λe w'=>e=.returned (.bool (inB ins xss))/\Drawn w w':=by
 have HF:Hid _:=f
 have HG:Hid _:=g
 have HL:Hid (ins.length=n/\xss.length=m):=⟨f.len,g.len⟩
 clear f g
 by_cases hnm:m=n
 ·subst hnm
  go_enter Tryz.func33,Tryz.ntmps33
  go_wp2_with fail
  go_loop [14] (λi=>∃k:Nat,k<=m/\i=.int .i64 k/\Hid ((List.range k).all (λi=>((xss.getD i []).length:Int)==ins.getD i 0)=true)) (λi=>m-(intOf i).toNat)
  case atStart=>exact⟨0,Nat.zero_le _,rfl,rfl⟩
  case round=>
   obtain⟨k,hk,rfl,hA⟩:=hrel
   by_cases hlt:k<m
   ·rcases HF.out.at_ with z0|⟨ga,oa,ea,z1,z2,z3,z4⟩
    ·omega
    rcases HG.out.at_ with z0|⟨gb,ob,eb,y1,y2⟩
    ·omega
    have c1:=z4 k hlt
    obtain⟨b2,cc2,c2,_,_⟩:=y2 k hlt
    subst ea eb
    clear z1 z2 z3 z4 y1 y2
    cases hx:(((xss.getD k []).length:Int)==ins.getD k 0)
    ·have R:Hid (inB ins xss=false):=by
      show inB ins xss=false
      unfold inB
      rw[HL.out.1,lG (p:=λi=>((xss.getD i []).length:Int)==ins.getD i 0) hlt hx,Bool.and_false]
     have hx':(((xss.getD k []).length:Int) !=ins.getD k 0)=true:=by rw[bne,hx];rfl
     generalize (xss.getD k []).length=y at c2 hx'
     generalize ins.getD k 0=x at c1 hx'
     clear hx hA
     go_wp2
     go_ret
     exact⟨by rw[R.out];rfl,Drawn.refl _⟩
    ·have R:Hid _:=li (p:=λi=>((xss.getD i []).length:Int)==ins.getD i 0) hA.out hx
     have hx':(((xss.getD k []).length:Int) !=ins.getD k 0)=false:=by rw[bne,hx];rfl
     generalize (xss.getD k []).length=y at c2 hx'
     generalize ins.getD k 0=x at c1 hx'
     clear hx hA
     go_wp2
     go_round
     case rel=>exact⟨k+1,by omega,by go_num,R⟩
     case measure=>simp[intOf];omega
   ·have R:Hid (inB ins xss=true):=by
     have h1:=hA.out
     rw[show k=m by omega] at h1
     show inB ins xss=true
     unfold inB
     rw[HL.out.1,HL.out.2,h1,decide_eq_true rfl];rfl
    clear hA
    go_wp2
    go_ret
    exact⟨by rw[R.out];rfl,Drawn.refl _⟩
 ·have e:inB ins xss=false:=by
   unfold inB
   rw[HL.out.1,HL.out.2,decide_eq_false hnm,Bool.false_and]
  rw[e]
  have t:((m:Int) !=(n:Int))=true:=by simp;omega
  go_enter Tryz.func33,Tryz.ntmps33
  go_wp2
  go_ret
  exact⟨rfl,Drawn.refl _⟩
theorem FO.of_own {W:World}(h:W.ownsRow base 29 1 v n (xs.map (Value.float .f64)))(hn:0<n)(hl:xs.length=n)(hb:∀x∈xs,x<18446744073709551616):
  ∃g cap,v=.slice (some ⟨g,0,none⟩) n cap/\base<=g/\n<=cap/\FO W g n xs:=by
 rcases h.2 with⟨_,c⟩|⟨g,cap,cur,rfl,b1,b2,b3,_,b5,b6⟩
 ·omega
 ·have hg:g<W.heap.size:=by
   rcases Nat.lt_or_ge g W.heap.size with c|c
   ·exact c
   ·rw[Array.getElem?_eq_none c] at b2;cases b2
  refine⟨g,cap,rfl,b1,b3,hl,hb,hg,λj hj=>?_,λo=>frozen_of_row W g o _ _ b2⟩
  rw[cell_of_row W g _ cur _ _ b2,<-Array.getElem?_toList]
  have:(cur.toList.take (n*1))[j]? =(xs.map (Value.float .f64))[j]?:=by rw[b6]
  rw[List.getElem?_take_of_lt (by omega)] at this
  rw[this,List.getElem?_map,List.getElem?_eq_getElem (by omega:j<xs.length)]
  simp[List.getD_eq_getElem?_getD,List.getElem?_eq_getElem (by omega:j<xs.length)]
theorem vZ {off:Nat}(hx:xs.length=n)(hc:∀k,k<n->w.cell? ⟨g,off+k,none⟩=some (.float .f64 (xs.getD k 0))):
  ∀j u,(xs.map (Value.float .f64))[j]? =some u->w.cell? ((⟨g,off,none⟩:Addr).add j)=some u:=λj u hu=>by
 have hj:j<n:=by
  rcases Nat.lt_or_ge j n with c|c
  ·exact c
  ·rw[List.getElem?_eq_none (by simp;omega)] at hu;cases hu
 have h1:=hc j hj
 have e:(⟨g,off,none⟩:Addr).add j=⟨g,off+j,none⟩:=by
  unfold Addr.add
  split
  ·rename_i h0;rw[h0];rfl
  ·rfl
 rw[e,h1]
 rw[List.getElem?_map,List.getElem?_eq_getElem (by omega:j<xs.length)] at hu
 simp only[Option.map_some] at hu
 rw[<-hu,List.getD_eq_getElem?_getD,List.getElem?_eq_getElem (by omega:j<xs.length)];rfl
theorem jS (h:w.grownBy w' row)(hr:∀k,row=some k->base<=k){w0:World}(k:Kept 0 0 w0 w)(hb:w0.heap.size<=base):Kept 0 0 w0 w':=
 ⟨h.os.trans k.os,h.tape.trans k.tape,h.output.trans k.output,Nat.le_trans k.size h.size,λi hi _=>by
  rw[h.block i (Nat.lt_of_lt_of_le hi k.size) (λc=>by have:=hr i c.symm;omega)]
  exact k.block i hi (by omega)⟩
theorem E7 (w:World)(g off n c:Nat)(xs:List Nat)(hn:1<=n)(hn2:n<=1000000)(hg:g<w.heap.size)(hx:xs.length=n)(hlt:∀x∈xs,x<18446744073709551616)(hc:∀k,k<n->w.cell? ⟨g,off+k,none⟩=some (.float .f64 (xs.getD k 0))):
  Calls Tryz.prog 35 #[.slice (some ⟨g,off,none⟩) n c] w λe w'=>∃G cap,e=.returned (.slice (some ⟨G,0,none⟩) n cap)/\n<=cap/\FO w' G n xs/\w.heap.size<=G/\Kept 0 0 w w':=by
 obtain⟨i0,hi,hz0,hz1,hz2⟩:=info_parts lq
 have heq:(binOp .eql 36 (.slice (some ⟨g,off,none⟩) n c) (.slice none 0 0)).run Tryz.prog w=.ok (.bool false) w:=by
  simp only[binOp]
  simp[run_equal_slice_nil w 36 29 (some ⟨g,off,none⟩) n c Tryz.underlying36]
 have ka:=hU 0 0 w (.cells #[] 29)
 have HN:Hid _:=vZ (w:=w.alloc (.cells #[] 29)) (g:=g) (off:=off) hx (λk hk=>jq ka hg (hc k hk))
 have HO:Hid _:=World.ownsRow_made (base:=w.heap.size) (e:=29) (size:=1) w #[] 0 (Nat.le_refl _) (by unfold maxLen;omega) rfl
 have HKA:Hid _:=ka
 have HX:Hid (xs.length=n):=hx
 have HLT:Hid _:=hlt
 clear hc hx hlt ka
 go_enter Tryz.func35,Tryz.ntmps35
 go_wp2_with (first|(at_builtin;refine wpList_append_own _ rfl _ _ 36 rfl w.heap.size 29 i0 (.float .f64 0) 1 8 Tryz.underlying36 hi hz0 hz1 hz2 rfl (by decide) _ _ _ rfl HO.out ⟨g,off,none⟩ n c (xs.map (Value.float .f64)) rfl ?c0 HN.out ?c2 ?c3 ?c4 ?c5 ?_))
 case c0=>exact HX.out
 case c2=>intro u hu;rfl
 case c3=>unfold maxLen;omega
 case c4=>omega
 intro v' w9 hown9 hg9 _
 obtain⟨G,cap,rfl,b1,b2,b3⟩:=FO.of_own hown9 (by omega) HX.out HLT.out
 have R:Hid _:=jS (base:=w.heap.size) hg9 (λk hk=>by have:w.heap.size=k:=(by simpa[Value.ownBlock] using hk);omega) HKA.out (Nat.le_refl _)
 clear hown9 hg9
 go_wp2
 go_ret
 exact⟨G,cap,rfl,b2,b3,b1,R.out⟩
def Cl (w:World)(v:Value)(xs:List Nat):Prop:=∃b n c zs,v=.slice b n c/\n<=c/\FS w 0 w.heap.size b n zs/\same zs xs
theorem Cl.keep (h:Cl w v xs)(k:Kept 0 0 w w'):Cl w' v xs:=by
 obtain⟨b,n,c,zs,h1,h2,h3,h4⟩:=h
 exact⟨b,n,c,zs,h1,h2,h3.keep0 k,h4⟩
theorem Cl.nil (w:World):Cl w (.slice none 0 0) []:=⟨none,0,0,[],rfl,Nat.le_refl _,⟨rfl,by simp,.inl rfl⟩,rfl⟩
def Cn (w:World)(lo:Nat)(v:Value)(xs:List Nat):Prop:=∃b n c zs,v=.slice b n c/\n<=c/\FS w lo w.heap.size b n zs/\same zs xs
theorem Cn.cl (h:Cn w lo v xs):Cl w v xs:=by
 obtain⟨b,n,c,zs,h1,h2,h3,h4⟩:=h
 exact⟨b,n,c,zs,h1,h2,h3.mono (Nat.zero_le _) (Nat.le_refl _),h4⟩
theorem uo (w:World)(v:Vl)(hK:v.k<18446744073709551616)(x y z:Value)(xa xb xc:List Nat)(ha:Cl w x xa)(hb:Cl w y xb)(hc:Cl w z xc)(la:∀q∈xa,q<18446744073709551616):
  Calls Tryz.prog 68 #[v.agg,x,y,z] w λe w'=>∃u,e=.returned u/\Cn w' w.heap.size u (lB v.op v.len v.c v.k xa xb xc)/\Kept 0 0 w w':=by
 obtain⟨a,na,ca,za,rfl,a1,a2,a3⟩:=ha
 obtain⟨b,nb,cb,zb,rfl,b1,b2,b3⟩:=hb
 obtain⟨c,nc,cc,zc,rfl,c1,c2,c3⟩:=hc
 refine(ug w v.op v.len v.a v.b v.c v.k hK a2 b2 c2 a1).mono ?_
 rintro e w' ⟨a',n,cap,zs,rfl,ho,hs,hk,hn⟩
 exact⟨_,rfl,⟨a',n,cap,zs,rfl,hn,ho.fs,qs hs (qr a3 b3 c3 a2.lt la)⟩,hk⟩
theorem uq (w:World)(v:Vl)(hK:v.k<18446744073709551616)(x y z:Value)(xa xb xc:List Nat)(ha:Cl w x xa)(hb:Cl w y xb)(hc:Cl w z xc)(la:∀q∈xa,q<18446744073709551616):
  Calls Tryz.prog 47 #[v.agg,x,y,z] w λe w'=>∃u,e=.returned u/\Cn w' w.heap.size u (lB v.op v.len v.c v.k xa xb xc)/\Kept 0 0 w w':=by
 obtain⟨a,na,ca,za,rfl,a1,a2,a3⟩:=ha
 obtain⟨b,nb,cb,zb,rfl,b1,b2,b3⟩:=hb
 obtain⟨c,nc,cc,zc,rfl,c1,c2,c3⟩:=hc
 refine(uh w v.op v.len v.a v.b v.c v.k hK a2 b2 c2 a1).mono ?_
 rintro e w' ⟨a',n,cap,zs,rfl,ho,hs,hk,hn⟩
 exact⟨_,rfl,⟨a',n,cap,zs,rfl,hn,ho,qs hs (qr a3 b3 c3 a2.lt la)⟩,hk⟩
theorem pq (op:BinOp)(x y:Nat):cop op x y<18446744073709551616:=by
 unfold cop
 cases h:floatBits op .f64 x y with
 |none=>decide
 |some r=>
  have:=floatBits_wf h
  simpa[Lit.wf] using this
theorem A6 (hx:x<18446744073709551616):oC x<18446744073709551616:=by
 unfold oC
 split
 ·exact hx
 ·split
  ·decide
  ·split
   ·decide
   ·exact pq _ _ _
theorem v6:∀(xs:List Nat) (x:Nat),x<18446744073709551616->xs.foldl (cop .add) x<18446744073709551616
 |[],_,h=>h
 |y::ys,x,_=>v6 ys (cop .add x y) (pq _ _ _)
theorem A7 (h:∀x∈xs,x<18446744073709551616):kP xs<18446744073709551616:=by
 cases xs with
 |nil=>decide
 |cons x r=>exact v6 r x (h x (by simp))
theorem lZ {p:Prop}[Decidable p]{y:Nat}(hx:x<18446744073709551616)(hy:y<18446744073709551616):(if p then x else y)<18446744073709551616:=by
 split
 ·exact hx
 ·exact hy
theorem A8 (hK:K<18446744073709551616)(ha:∀x∈xa,x<18446744073709551616)(hb:∀x∈xb,x<18446744073709551616)(hc:∀x∈xc,x<18446744073709551616)(k:Nat):iF op C K xa xb xc k<18446744073709551616:=by
 have a0:=iE ha
 have b0:=iE hb
 have c0:=iE hc
 unfold iF jZ jz
 exact lZ hK (lZ (pq _ _ _) (lZ (pq _ _ _) (lZ (pq _ _ _) (lZ (pq _ _ _) (lZ (si (a0 _)) (lZ (lZ (a0 _) (b0 _)) (lZ (lZ (b0 _) (c0 _)) (lZ (A7 ha) (lZ (a0 _) (lZ (a0 _) (lZ (lZ (a0 _) (by decide)) (A6 (a0 _)))))))))))))
theorem A9 {len:Int}(hK:K<18446744073709551616)(ha:∀x∈xa,x<18446744073709551616)(hb:∀x∈xb,x<18446744073709551616)(hc:∀x∈xc,x<18446744073709551616):∀x∈lB op len C K xa xb xc,x<18446744073709551616:=by
 unfold lB
 split
 ·intro x hx
  obtain⟨k,_,rfl⟩:=List.mem_map.1 hx
  exact A8 hK ha hb hc k
 ·intro x hx;cases hx
def mF (xss:List (List Nat)):Prop:=∀k,∀x∈xss.getD k [],x<18446744073709551616
theorem qC {p:Prop}[Decidable p](h:∀x∈xs,x<18446744073709551616):∀x∈(if p then xs else[]),x<18446744073709551616:=by
 split
 ·exact h
 ·intro x hx;cases hx
theorem Dv {v:Vl}(hx:mF xss)(hv:v.k<18446744073709551616)(hV:mF Vs):∀x∈one xss v Vs,x<18446744073709551616:=by
 unfold one
 split
 ·exact hx _
 ·exact A9 hv (qC (hV _)) (qC (hV _)) (qC (hV _))
theorem s7 {xss:List (List Nat)}{vs:List Vl}(hx:mF xss)(hv:∀k,(vs.getD k Vl.zero).k<18446744073709551616):∀i,mF (io xss vs i)
 |0=>λk x h=>by simp[io] at h
 |i+1=>λk x h=>by
  have ih:=s7 hx hv i
  rcases Nat.lt_trichotomy k i with c|c|c
  ·rw[lH xss vs c] at h;exact ih k x h
  ·subst c;rw[lI] at h;exact Dv hx (hv _) ih x h
  ·rw[List.getD_eq_getElem?_getD,List.getElem?_eq_none (by rw[kJ];omega)] at h;cases h
theorem FS.setS {hi:Nat}(f:FS w lo hi a n xs)(hc:w.cell? ⟨g,k,none⟩=some u)(hu:∀x,u≠.float .f64 x)(v:Value):FS (w.setCell ⟨g,k,none⟩ v) lo hi a n xs:=
 ⟨f.len,f.lt,by
  rcases f.at_ with h0|⟨g',off,e,h1,h2,h3,h4⟩
  ·exact .inl h0
  ·refine .inr ⟨g',off,e,h1,h2,by simpa using h3,λj hj=>?_⟩
   by_cases c:g=g'/\k=off+j
   ·obtain⟨rfl,rfl⟩:=c
    have:=h4 j hj
    rw[hc] at this
    injection this with this
    exact absurd this (hu _)
   ·rw[iB _ _ _ _ _ _ (by omega)];exact h4 j hj⟩
theorem Cl.setS (f:Cl w y xs)(hc:w.cell? ⟨g,k,none⟩=some u)(hu:∀x,u≠.float .f64 x)(v:Value):Cl (w.setCell ⟨g,k,none⟩ v) y xs:=by
 obtain⟨b,n,c,zs,h1,h2,h3,h4⟩:=f
 exact⟨b,n,c,zs,h1,h2,(h3.setS hc hu v).mono (Nat.le_refl _) (by simp),h4⟩
theorem ke (b:Option Addr)(n c:Nat):∀x,(Value.slice b n c)≠.float .f64 x:=λ_ h=>by cases h
structure LV (w:World)(g n k:Nat)(Vs:List (List Nat)):Prop where
 lt:g<w.heap.size
 free:∀o,w.frozen? ⟨g,o,none⟩=false
 at_:∀j,j<n->∃b m c,w.cell? ⟨g,j,none⟩=some (.slice b m c)/\(j<k->Cl w (.slice b m c) (Vs.getD j []))
theorem LV.keep (f:LV w g n k Vs)(q:Kept 0 0 w w'):LV w' g n k Vs:=
 ⟨Nat.lt_of_lt_of_le f.lt q.size,λo=>by rw[q.frozen (p:=⟨g,o,none⟩) f.lt (by omega)];exact f.free o,λj hj=>by
  obtain⟨b,m,c,h1,h2⟩:=f.at_ j hj
  exact⟨b,m,c,jq q f.lt h1,λh=>(h2 h).keep q⟩⟩
theorem LV.made (w:World)(n:Nat)(Vs:List (List Nat)):LV (w.alloc (.cells (madeCells #[.slice none 0 0] n) 36)) w.heap.size n 0 Vs where
 lt:=by simp
 free:=λo=>by simp
 at_:=λj hj=>by
  rw[World.cell?_alloc_new]
  refine⟨none,0,0,?_,λh=>absurd h (Nat.not_lt_zero _)⟩
  simp only[madeCells]
  rw[Array.getElem?_map,Array.getElem?_range,if_pos hj]
  have hm:j%1=0:=Nat.mod_one j
  simp[hm]
theorem LV.step (f:LV w g n k (io xss vs k))(hk:k<n)(q:Kept 0 0 w w')(hu:Cl w' (.slice b m c) (one xss (vs.getD k Vl.zero) (io xss vs k))):
  LV (w'.setCell ⟨g,k,none⟩ (.slice b m c)) g n (k+1) (io xss vs (k+1)):=by
 have f':=f.keep q
 obtain⟨b0,m0,c0,hc,_⟩:=f'.at_ k hk
 refine⟨by simpa using f'.lt,λo=>by simp[f'.free o],λj hj=>?_⟩
 by_cases e:j=k
 ·subst e
  exact⟨b,m,c,jI _ _ _ _ _ hc,λ_=>by rw[lI];exact hu.setS hc (ke _ _ _) _⟩
 ·obtain⟨b1,m1,c1,h1,h2⟩:=f'.at_ j hj
  refine⟨b1,m1,c1,by rw[iB _ _ _ _ _ _ (.inr (Ne.symm e))];exact h1,λh=>?_⟩
  rw[lH _ _ (by omega)]
  exact(h2 (by omega)).setS hc (ke _ _ _) _
theorem l9 (F:Nat->List Nat)(h:j<n):((List.range n).map F).getD j []=F j:=by
 simp[List.getD_eq_getElem?_getD,h]
theorem LV.ss (f:LV w g n n Vs):∃zss,SS w (some ⟨g,0,none⟩) n zss/\∀j,j<n->same (zss.getD j []) (Vs.getD j []):=by
 have h:∀j,∃zs:List Nat,j<n->∃b c,w.cell? ⟨g,j,none⟩=some (.slice b zs.length c)/\zs.length<=c/\FS w 0 w.heap.size b zs.length zs/\same zs (Vs.getD j []):=λj=>by
  by_cases hj:j<n
  ·obtain⟨b,m,c,h1,h2⟩:=f.at_ j hj
   obtain⟨b',n',c',zs,e,a1,a2,a3⟩:=h2 hj
   cases e
   have e:=a2.len
   subst e
   exact⟨zs,λ_=>⟨b,c,h1,a1,a2,a3⟩⟩
  ·exact⟨[],λc=>absurd c hj⟩
 obtain⟨F,hF⟩:=Classical.axiomOfChoice h
 refine⟨(List.range n).map F,⟨by simp,.inr ⟨g,0,rfl,f.lt,λk hk=>?_⟩⟩,λj hj=>?_⟩
 ·rw[l9 F hk,Nat.zero_add]
  obtain⟨b,c,a1,a2,a3,_⟩:=hF k hk
  exact⟨b,c,a1,a2,a3⟩
 ·rw[l9 F hj]
  obtain⟨b,c,_,_,_,a4⟩:=hF j hj
  exact a4
theorem lw {xs:List Value}{W:World}(h:W.ownsRow base e size v n xs)(k:Kept 0 0 W W'):W'.ownsRow base e size v n xs:=by
 refine⟨h.1,h.2.imp id ?_⟩
 rintro⟨g,cap,cur,e1,b1,b2,b3⟩
 refine⟨g,cap,cur,e1,b1,?_,b3⟩
 have hg:g<W.heap.size:=by
  rcases Nat.lt_or_ge g W.heap.size with c|c
  ·exact c
  ·rw[Array.getElem?_eq_none c] at b2;cases b2
 rw[k.block g hg (by omega)]
 exact b2
theorem FS.grown {W:World}{zs:List Nat}(f:FS W 0 W.heap.size b n zs)(hg:W.grownBy W' row)(hne:0<n->∀p,b=some p->row≠some p.block):FS W' 0 W'.heap.size b n zs:=
 ⟨f.len,f.lt,by
  rcases f.at_ with h0|⟨g',off,e,h1,h2,h3,h4⟩
  ·exact .inl h0
  ·refine .inr ⟨g',off,e,h1,Nat.lt_of_lt_of_le h3 hg.size,Nat.lt_of_lt_of_le h3 hg.size,λj hj=>?_⟩
   rw[hg.cell_far ⟨g',off+j,none⟩ h3 (λc=>hne (by omega) _ e c.symm)]
   exact h4 j hj⟩
theorem Cl.grown {W:World}(f:Cl W (.slice b n c) xs)(hg:W.grownBy W' row)(hne:0<n->∀p,b=some p->row≠some p.block):Cl W' (.slice b n c) xs:=by
 obtain⟨b',n',c',zs,e,h2,h3,h4⟩:=f
 cases e
 exact⟨b,n,c,zs,rfl,h2,h3.grown hg hne,h4⟩
theorem Cl.lt {W:World}(f:Cl W (.slice b n c) xs)(hn:0<n)(p:Addr)(hp:b=some p):p.block<W.heap.size:=by
 obtain⟨b',n',c',zs,e,h2,h3,h4⟩:=f
 cases e
 rcases h3.at_ with h0|⟨g',off,e,h1,h2,h3,h4⟩
 ·omega
 ·rw[e] at hp;cases hp;exact h3
theorem Cn.ge {W:World}(f:Cn W lo (.slice b n c) xs)(hn:0<n)(p:Addr)(hp:b=some p):lo<=p.block:=by
 obtain⟨b',n',c',zs,e,h2,h3,h4⟩:=f
 cases e
 rcases h3.at_ with h0|⟨g',off,e,h1,h2,h3,h4⟩
 ·omega
 ·rw[e] at hp;cases hp;exact h1
def AR (W:World)(base:Nat)(v:Value)(k:Nat)(Vs:List (List Nat)):Prop:=
 ∃us:List Value,W.ownsRow base 36 1 v k us/\∀j,j<k->∃b n c,us[j]? =some (.slice b n c)/\Cl W (.slice b n c) (Vs.getD j [])/\(0<n->∀p,b=some p->v.ownBlock≠some p.block)
theorem AR.nil (W:World)(base:Nat)(Vs:List (List Nat)):AR W base (.slice none 0 0) 0 Vs:=⟨[],World.ownsRow_nil _ _ _ _,λ_ hj=>absurd hj (Nat.not_lt_zero _)⟩
theorem AR.keep {W:World}(f:AR W base v k Vs)(q:Kept 0 0 W W'):AR W' base v k Vs:=by
 obtain⟨us,h1,h2⟩:=f
 refine⟨us,lw h1 q,λj hj=>?_⟩
 obtain⟨b,n,c,a1,a2,a3⟩:=h2 j hj
 exact⟨b,n,c,a1,a2.keep q,a3⟩
theorem AR.cell {W:World}(f:AR W base v k Vs)(hk:0<k):
  ∃g cap,v=.slice (some ⟨g,0,none⟩) k cap/\base<=g/\g<W.heap.size/\∀j,j<k->∃b n c,W.cell? ⟨g,j,none⟩=some (.slice b n c)/\Cl W (.slice b n c) (Vs.getD j [])/\(0<n->∀p,b=some p->g≠p.block):=by
 obtain⟨us,h1,h2⟩:=f
 rcases h1.2 with⟨_,c⟩|⟨g,cap,cur,rfl,b1,b2,b3,_,b5,b6⟩
 ·omega
 ·have hg:g<W.heap.size:=by
   rcases Nat.lt_or_ge g W.heap.size with c|c
   ·exact c
   ·rw[Array.getElem?_eq_none c] at b2;cases b2
  refine⟨g,cap,rfl,b1,hg,λj hj=>?_⟩
  obtain⟨b,n,c,a1,a2,a3⟩:=h2 j hj
  refine⟨b,n,c,?_,a2,λhn p hp e=>a3 hn p hp (by rw[<-e];rfl)⟩
  rw[cell_of_row W g _ cur _ _ b2,<-Array.getElem?_toList]
  have:(cur.toList.take (k*1))[j]? =us[j]?:=by rw[b6]
  rw[List.getElem?_take_of_lt (by omega)] at this
  rw[this,a1]
theorem AR.step {W:World}(h1:W.ownsRow base 36 1 v k us)
  (h2:∀j,j<k->∃b n c,us[j]? =some (.slice b n c)/\Cl W (.slice b n c) (Vs.getD j [])/\(0<n->∀p,b=some p->v.ownBlock≠some p.block))
  {o:Obj} {x:List Nat} (hC:Cl W (.slice b n c) x) (hn:0<n->∀p,b=some p->v.ownBlock≠some p.block) {w9:World}
  (hown9:w9.ownsRow base 36 1 (.slice (some ⟨g,0,none⟩) (k+1) cap) (k+1) (us++[.slice b n c])) (hg:(W.alloc o).grownBy w9 v.ownBlock) (hat:v.ownBlock=some g\/g=(W.alloc o).heap.size)
  {Vs':List (List Nat)} (e1:∀j,j<k->Vs'.getD j []=Vs.getD j []) (e2:Vs'.getD k []=x):AR w9 base (.slice (some ⟨g,0,none⟩) (k+1) cap) (k+1) Vs':=by
 have hl:us.length=k:=by have:=h1.1;omega
 have ka:=hU 0 0 W o
 have hs:W.heap.size<(W.alloc o).heap.size:=by simp
 have key:∀(b:Option Addr) (n c:Nat) (x:List Nat),Cl W (.slice b n c) x->(0<n->∀p,b=some p->v.ownBlock≠some p.block)->Cl w9 (.slice b n c) x/\(0<n->∀p,b=some p->(Value.slice (some ⟨g,0,none⟩) (k+1) cap).ownBlock≠some p.block):=λb n c x hc hv=>
  ⟨(hc.keep ka).grown hg hv,λh0 p hp e=>by
    have e':g=p.block:=by simpa[Value.ownBlock] using e
    rcases hat with h|h
    ·exact hv h0 p hp (by rw[h,e'])
    ·have:=hc.lt h0 p hp
     omega⟩
 refine⟨_,hown9,λj hj=>?_⟩
 by_cases c':j<k
 ·obtain⟨b',n',c'',a1,a2,a3⟩:=h2 j c'
  obtain⟨k1,k2⟩:=key _ _ _ _ a2 a3
  exact⟨b',n',c'',by rw[List.getElem?_append_left (by omega)];exact a1,by rw[e1 j c'];exact k1,k2⟩
 ·have:j=k:=by omega
  subst this
  obtain⟨k1,k2⟩:=key _ _ _ _ hC hn
  exact⟨b,n,c,by rw[List.getElem?_append_right (by omega),hl,Nat.sub_self];rfl,by rw[e2];exact k1,k2⟩
theorem AR.ss {W:World}(f:AR W base v k Vs):∃a cap zss,v=.slice a k cap/\SS W a k zss/\∀j,j<k->same (zss.getD j []) (Vs.getD j []):=by
 rcases Nat.eq_zero_or_pos k with h0|h0
 ·subst h0
  obtain⟨us,h1,_⟩:=f
  rcases h1.2 with⟨rfl,_⟩|⟨g,cap,cur,rfl,_⟩
  ·exact⟨none,0,[],rfl,⟨rfl,.inl rfl⟩,λj hj=>absurd hj (Nat.not_lt_zero _)⟩
  ·exact⟨_,cap,[],rfl,⟨rfl,.inl rfl⟩,λj hj=>absurd hj (Nat.not_lt_zero _)⟩
 ·obtain⟨g,cap,rfl,_,hg,hc⟩:=f.cell h0
  have h:∀j,∃zs:List Nat,j<k->∃b c,W.cell? ⟨g,j,none⟩=some (.slice b zs.length c)/\zs.length<=c/\FS W 0 W.heap.size b zs.length zs/\same zs (Vs.getD j []):=λj=>by
   by_cases hj:j<k
   ·obtain⟨b,m,c,h1,h2,_⟩:=hc j hj
    obtain⟨b',n',c',zs,e,a1,a2,a3⟩:=h2
    cases e
    have e:=a2.len
    subst e
    exact⟨zs,λ_=>⟨b,c,h1,a1,a2,a3⟩⟩
   ·exact⟨[],λc=>absurd c hj⟩
  obtain⟨F,hF⟩:=Classical.axiomOfChoice h
  refine⟨_,cap,(List.range k).map F,rfl,⟨by simp,.inr ⟨g,0,rfl,hg,λj hj=>?_⟩⟩,λj hj=>?_⟩
  ·rw[l9 F hj,Nat.zero_add]
   obtain⟨b,c,a1,a2,a3,_⟩:=hF j hj
   exact⟨b,c,a1,a2,a3⟩
  ·rw[l9 F hj]
   obtain⟨b,c,_,_,_,a4⟩:=hF j hj
   exact a4
theorem qY (w:World)(len A B C:Int)(K:Nat)(g n c m cb:Nat)(b:Option Addr)(xss:List (List Nat))(hS:SS w b m xss)(h0:0<=A)(h1:A<m):
  Calls Tryz.prog 34 #[jA 0 len A B C K,.slice (some ⟨g,0,none⟩) n c,.slice b m cb] w λe w'=>∃b' n' c',e=.returned (.slice b' n' c')/\Cl w' (.slice b' n' c') (xss.getD A.toNat [])/\Kept 0 0 w w':=by
 obtain⟨j,rfl⟩:∃j:Nat,A=j:=⟨A.toNat,by omega⟩
 rw[Int.toNat_natCast]
 rcases hS.at_ with z|⟨gb,ob,rfl,y1,y2⟩
 ·omega
 obtain⟨b2,cc2,c2,c3,c4⟩:=y2 j (by omega)
 have hK:=hU 0 0 w (ij 0 len j B C K)
 have R:Hid (Cl (w.alloc (ij 0 len j B C K)) (.slice b2 (xss.getD j []).length cc2) (xss.getD j [])):=Cl.keep ⟨_,_,_,_,rfl,c3,c4,rfl⟩ hK
 have c5:=jq hK y1 c2
 clear c2 c3 c4 y2 hS
 generalize xss.getD j []=xs at R c5 ⊢
 go_enter Tryz.func34,Tryz.ntmps34
 go_wp2
 go_ret
 exact⟨_,_,_,rfl,R.out,hK⟩
def opl (v:Vl)(Vs:List (List Nat))(q:Nat):List (List Nat):=[if 0<q then Vs.getD v.a.toNat [] else[],if 1<q then Vs.getD v.b.toNat [] else[],if 2<q then Vs.getD v.c.toNat [] else[]]
def kop (v:Vl)(Vs:List (List Nat)):List Nat:=lB v.op v.len v.c v.k ((opl v Vs (cnt v.op)).getD 0 []) ((opl v Vs (cnt v.op)).getD 1 []) ((opl v Vs (cnt v.op)).getD 2 [])
theorem Ba (v:Vl)(Vs:List (List Nat))(hq:q<3):(opl v Vs q).set q (Vs.getD ([v.a,v.b,v.c].getD q 0).toNat [])=opl v Vs (q+1):=by
 have:q=0\/q=1\/q=2:=by omega
 rcases this with rfl|rfl|rfl<;>simp[opl]
theorem ur (v:Vl)(hq:q<cnt v.op):(iV v).getD q 0=[v.a,v.b,v.c].getD q 0:=by
 unfold iV
 rw[List.getD_eq_getElem?_getD,List.getD_eq_getElem?_getD,List.getElem?_take_of_lt hq]
theorem LV.put (f:LV w g n n Vs)(hj:j<n)(hl:Vs.length=n)(q:Kept 0 0 w w'){x:List Nat}(hu:Cl w' (.slice b m c) x):
  LV (w'.setCell ⟨g,j,none⟩ (.slice b m c)) g n n (Vs.set j x):=by
 have f':=f.keep q
 obtain⟨b0,m0,c0,hc,_⟩:=f'.at_ j hj
 refine⟨by simpa using f'.lt,λo=>by simp[f'.free o],λi hi=>?_⟩
 by_cases e:i=j
 ·subst e
  refine⟨b,m,c,jI _ _ _ _ _ hc,λ_=>?_⟩
  rw[List.getD_eq_getElem?_getD,List.getElem?_set,if_pos rfl,if_pos (by omega)]
  exact hu.setS hc (ke _ _ _) _
 ·obtain⟨b1,m1,c1,h1,h2⟩:=f'.at_ i hi
  refine⟨b1,m1,c1,by rw[iB _ _ _ _ _ _ (.inr (Ne.symm e))];exact h1,λh=>?_⟩
  rw[List.getD_eq_getElem?_getD,List.getElem?_set,if_neg (Ne.symm e),<-List.getD_eq_getElem?_getD]
  exact(h2 h).setS hc (ke _ _ _) _
theorem LV.other {P:Nat}(f:LV w g n k Vs)(hne:P≠g)(hc:w.cell? ⟨P,j,none⟩=some u)(hu:∀x,u≠.float .f64 x)(v:Value):LV (w.setCell ⟨P,j,none⟩ v) g n k Vs:=by
 refine⟨by simpa using f.lt,λo=>by simp[f.free o],λi hi=>?_⟩
 obtain⟨b1,m1,c1,h1,h2⟩:=f.at_ i hi
 exact⟨b1,m1,c1,by rw[iB _ _ _ _ _ _ (.inl hne)];exact h1,λh=>(h2 h).setS hc hu _⟩
theorem xj (w:World):LV (w.alloc (.cells #[.slice none 0 0,.slice none 0 0,.slice none 0 0] 93)) w.heap.size 3 3 [[],[],[]] where
 lt:=by simp
 free:=λo=>by simp
 at_:=λj hj=>by
  have:j=0\/j=1\/j=2:=by omega
  refine⟨none,0,0,?_,λ_=>?_⟩
  ·rcases this with rfl|rfl|rfl<;>simp
  ·rcases this with rfl|rfl|rfl<;>exact Cl.nil _
theorem s8 (w:World)(v:Vl):At (w.alloc (ij v.op v.len v.a v.b v.c v.k)) w.heap.size 0 v:=by
 refine⟨?_,?_,?_,?_,?_,?_⟩
 all_goals first|(go_simp;done)|(simp;done)
theorem qZ (w:World)(v:Vl)(h0:v.op≠0)(g n c m cb k:Nat)(b:Option Addr)(Vs:List (List Nat))(hL:LV w g n k Vs)(hkn:k<=n)(hk:v.k<18446744073709551616)(hW:mF Vs)(h1:(iV v).all (iL · k)=true):
  Calls Tryz.prog 34 #[v.agg,.slice (some ⟨g,0,none⟩) n c,.slice b m cb] w λe w'=>∃b' n' c',e=.returned (.slice b' n' c')/\Cn w' w.heap.size (.slice b' n' c') (kop v Vs)/\Kept 0 0 w w':=by
 have t:(v.op==0)=false:=beq_eq_false_iff_ne.2 h0
 have hc3:=jo v.op
 have k1:=hU 0 0 w (ij v.op v.len v.a v.b v.c v.k)
 have k2:=hU 0 0 (w.alloc (ij v.op v.len v.a v.b v.c v.k)) (.cells #[.slice none 0 0,.slice none 0 0,.slice none 0 0] 93)
 have HA:Hid _:=xj (w.alloc (ij v.op v.len v.a v.b v.c v.k))
 have HV:Hid _:=(s8 w v).keep (by simp) k2 (.inr (.inr (Nat.le_refl _)))
 have HL:Hid _:=hL.keep (k1.trans k2)
 have HK:Hid _:=k1.trans k2
 have HZ:Hid (w.heap.size+1<((w.alloc (ij v.op v.len v.a v.b v.c v.k)).alloc (.cells #[.slice none 0 0,.slice none 0 0,.slice none 0 0] 93)).heap.size):=by show _<_;simp
 have HG:Hid (g<w.heap.size):=hL.lt
 have HW:Hid _:=hW
 have H1:Hid _:=h1
 clear h0 k1 k2 hL hW h1
 obtain⟨v0,v1,v2,v3,v4,v5⟩:=HV.out
 go_enter Tryz.func34,Tryz.ntmps34
 go_wp2_with fail
 clear v0 v1 v2 v3 v4 v5
 generalize ((w.alloc (ij v.op v.len v.a v.b v.c v.k)).alloc (.cells #[.slice none 0 0,.slice none 0 0,.slice none 0 0] 93))=w1 at HA HV HL HK HZ ⊢
 refine(lh _ v).mono ?_
 rintro e w2 ⟨G,rfl,hI,hG,k3⟩
 have HI:Hid _:=hI
 have hA2:LV w2 (w.heap.size+1) 3 3 (opl v Vs 0):=by
  have:=HA.out.keep k3
  rw[show(w.alloc (ij v.op v.len v.a v.b v.c v.k)).heap.size=w.heap.size+1 by simp] at this
  exact this
 have hV2:=HV.out.keep (by have:=HZ.out;omega) k3 (.inr (.inr (Nat.le_refl _)))
 have hL2:=HL.out.keep k3
 have hK2:=HK.out.trans k3
 have HA2:Hid _:=hA2
 have HV2:Hid _:=hV2
 have HL2:Hid _:=hL2
 have HK2:Hid _:=hK2
 have HS2:Hid (w1.heap.size<=w2.heap.size):=k3.size
 clear hI hA2 hV2 hL2 hK2 k3 HA HV HL HK
 go_wp2_with fail
 go_loopw [21] (λi W=>∃q:Nat,q<=cnt v.op/\i=.int .i64 q/\Hid (LV W (w.heap.size+1) 3 3 (opl v Vs q))/\Hid (At W w.heap.size 0 v)/\Hid (LV W g n k Vs)/\Hid (IS W w1.heap.size w2.heap.size (some ⟨G,0,none⟩) (cnt v.op) (iV v))/\Hid (Kept 0 0 w W)) (λi _=>cnt v.op-(intOf i).toNat)
 case atStart=>exact⟨0,Nat.zero_le _,rfl,HA2,HV2,HL2,HI,HK2⟩
 case round=>
  obtain⟨q,hq,rfl,hA,hV,hL,hI,hK⟩:=hrel
  clear HA2 HV2 HL2 HI HK2
  by_cases hlt:q<cnt v.op
  ·rcases hI.out.at_ with z0|⟨ga,oa,ea,z1,z2,z3,z4⟩
   ·omega
   have c1:=z4 q hlt
   cases ea
   obtain⟨o,ho⟩:∃o:Nat,(iV v).getD q 0=o/\o<k:=by
    have h:=List.all_eq_true.1 H1.out ((iV v).getD q 0) (by
     rw[List.getD_eq_getElem?_getD,List.getElem?_eq_getElem (by rw[nL];exact hlt)]
     exact List.getElem_mem _)
    have:=of_decide_eq_true h
    exact⟨((iV v).getD q 0).toNat,by omega,by omega⟩
   rw[ho.1,Nat.zero_add] at c1
   obtain⟨b1,m1,d1,c2,c3⟩:=hL.out.at_ o (by omega)
   have c4:=c3 ho.2
   obtain⟨b0,m0,d0,c5,_⟩:=hA.out.at_ q (by omega)
   have fz:=hA.out.free q
   have R1:Hid (LV (wr.setCell ⟨w.heap.size+1,q,none⟩ (.slice b1 m1 d1)) (w.heap.size+1) 3 3 (opl v Vs (q+1))):=by
    have:=hA.out.put (j:=q) (by omega) rfl (Kept.refl _ _ _) c4
    rw[<-Ba v Vs (by omega),<-ur v hlt,ho.1]
    exact this
   have kp:Kept (w.heap.size+1) (w.heap.size+2) wr (wr.setCell ⟨w.heap.size+1,q,none⟩ (.slice b1 m1 d1)):=it _ _ _ (.inl ⟨Nat.le_refl _,Nat.lt_succ_self _⟩)
   have R2:Hid _:=hV.out.keep (by have:=hA.out.lt;omega) kp (.inl (by omega))
   have R3:Hid _:=hL.out.other (by have:=HG.out;omega) c5 (ke _ _ _) (.slice b1 m1 d1)
   have R4:Hid _:=hI.out.keep kp (.inr (.inl (by have:=HZ.out;omega)))
   have R5:Hid _:=hK.out.new kp (by omega)
   have hq3:q<3:=by omega
   have hon:o<n:=by omega
   clear z1 z2 z3 z4 c3 c4 kp hA hV hL hI hK H1 ho
   go_wp2
   go_roundw
   case rel=>exact⟨q+1,by omega,by go_num,R1,R2,R3,R4,R5⟩
   case measure=>simp[intOf];omega
  ·obtain rfl:q=cnt v.op:=by omega
   obtain⟨b0,m0,d0,c0,e0⟩:=hA.out.at_ 0 (by omega)
   obtain⟨b1,m1,d1,c1,e1⟩:=hA.out.at_ 1 (by omega)
   obtain⟨b2,m2,d2,c2,e2⟩:=hA.out.at_ 2 (by omega)
   have HE:Hid _:=uo wr v hk _ _ _ _ _ _ (e0 (by omega)) (e1 (by omega)) (e2 (by omega)) (qC (HW.out _))
   obtain⟨v0,v1,v2,v3,v4,v5⟩:=hV.out
   clear e0 e1 e2 hA hL hI
   go_wp2_with fail
   refine Calls.mono HE.out ?_
   rintro e w9 ⟨u,rfl,hc9,k9⟩
   obtain⟨b9,n9,c9,zs,rfl,h2,h3,h4⟩:=hc9
   have R:Hid _:=hK.out.trans k9
   have R2:Hid (Cn w9 w.heap.size (.slice b9 n9 c9) (kop v Vs)):=⟨b9,n9,c9,zs,rfl,h2,h3.mono hK.out.size (Nat.le_refl _),h4⟩
   clear HE c0 c1 c2 v0 v1 v2 v3 v4 v5 h2 h3 h4 k9 hK hV
   go_wp2
   go_ret
   exact⟨b9,n9,c9,rfl,R2.out,R.out⟩
theorem vp (w:World)(v:Vl)(g n c m cb k:Nat)(b:Option Addr)(xss Vs:List (List Nat))(hL:LV w g n k Vs)(hS:SS w b m xss)(hkn:k<=n)(hk:v.k<18446744073709551616)(hW:mF Vs)(h0:v.op=0->0<=v.a/\v.a<m)(h1:v.op≠0->(iV v).all (iL · k)=true):
  Calls Tryz.prog 34 #[v.agg,.slice (some ⟨g,0,none⟩) n c,.slice b m cb] w λe w'=>∃b' n' c',e=.returned (.slice b' n' c')/\Cl w' (.slice b' n' c') (one xss v Vs)/\Kept 0 0 w w':=by
 unfold one
 by_cases h:v.op=0
 ·rw[if_pos h]
  have:=qY w v.len v.a v.b v.c v.k g n c m cb b xss hS (h0 h).1 (h0 h).2
  rw[<-h] at this
  exact this
 ·rw[if_neg h]
  exact(qZ w v h g n c m cb k b Vs hL hkn hk hW (h1 h)).mono λ_ _ ⟨b',n',c',q1,q2,q3⟩=>⟨b',n',c',q1,q2.cl,q3⟩
theorem oP (outs:List Int)(zss:List (List Nat))(h:j<outs.length):(outs.map λo=>zss.getD o.toNat []).getD j []=zss.getD (outs.getD j 0).toNat []:=by
 have e:outs.getD j 0=outs[j]:=by rw[List.getD_eq_getElem?_getD,List.getElem?_eq_getElem h];rfl
 rw[e,List.getD_eq_getElem?_getD,List.getElem?_map,List.getElem?_eq_getElem h]
 rfl
theorem td (w:World)(a1 a2 a3 b:Option Addr)(n1 c1 n2 c2 n3 c3 m cb:Nat)(ins:List Int)(vs:List Vl)(outs:List Int)(f:GS w a1 n1 a2 n2 a3 n3 ins vs outs)(h:okG ins vs outs=false):
  Calls Tryz.prog 14 #[ip a1 n1 c1 a2 n2 c2 a3 n3 c3,.slice b m cb] w λe w'=>e=.returned (.tuple #[.slice none 0 0,.int .i64 1])/\Kept 0 0 w w':=by
 have hK:=hU 0 0 w (iv a1 n1 c1 a2 n2 c2 a3 n3 c3)
 have HX:Hid _:=mw _ a1 a2 a3 n1 c1 n2 c2 n3 c3 ins vs outs (f.keep hK)
 rw[h] at HX
 have HK:Hid _:=hK
 clear hK h f
 go_enter Tryz.func14,Tryz.ntmps14
 go_wp2_with fail
 refine Calls.mono HX.out ?_
 rintro e w2 ⟨rfl,k2⟩
 go_wp2
 go_ret2
 exact⟨rfl,Kept.trans HK.out k2⟩
theorem qD (w:World)(a1 a2 a3 b:Option Addr)(n1 c1 n2 c2 n3 c3 m cb:Nat)(ins:List Int)(vs:List Vl)(outs:List Int)(xss:List (List Nat))(f:GS w a1 n1 a2 n2 a3 n3 ins vs outs)(s:SS w b m xss)(h:okG ins vs outs=true)(h2:inB ins xss=false)(hn:n1<=1048576):
  Calls Tryz.prog 14 #[ip a1 n1 c1 a2 n2 c2 a3 n3 c3,.slice b m cb] w λe w'=>e=.returned (.tuple #[.slice none 0 0,.int .i64 4])/\Kept 0 0 w w':=by
 have hK:=hU 0 0 w (iv a1 n1 c1 a2 n2 c2 a3 n3 c3)
 have HX:Hid _:=mw _ a1 a2 a3 n1 c1 n2 c2 n3 c3 ins vs outs (f.keep hK)
 rw[h] at HX
 have HB:Hid _:=iO w (.slice a1 n1 c1) (.slice a2 n2 c2) (.slice a3 n3 c3)
 have HF:Hid _:=f.keep hK
 have HS:Hid _:=s.keep hK
 have HK:Hid _:=hK
 clear hK h f s
 go_enter Tryz.func14,Tryz.ntmps14
 go_wp2_with fail
 refine Calls.mono HX.out ?_
 rintro e w2 ⟨rfl,k2⟩
 obtain⟨_,q0,q1,q2⟩:=G0.keep HB.out k2
 have HY:Hid _:=rK w2 _ _ a1 b n1 m c1 cb ins xss (GS.keep HF.out k2).i (SS.keep HS.out k2) (by omega)
 rw[h2] at HY
 have HK2:Hid _:=Kept.trans HK.out k2
 clear k2 HX HK HF HS HB
 go_wp2_with fail
 refine Calls.mono HY.out ?_
 rintro e w3 ⟨rfl,k3⟩
 go_wp2
 go_ret2
 exact⟨rfl,Kept.trans HK2.out (k3.kept 0 0)⟩
theorem ut (w:World)(a1 a2 a3 b:Option Addr)(n1 c1 n2 c2 n3 c3 m cb:Nat)(ins:List Int)(vs:List Vl)(outs:List Int)(xss:List (List Nat))(f:GS w a1 n1 a2 n2 a3 n3 ins vs outs)(s:SS w b m xss)(hw:mF xss)(h:okG ins vs outs=true)(h2:inB ins xss=true):
  Calls Tryz.prog 14 #[ip a1 n1 c1 a2 n2 c2 a3 n3 c3,.slice b m cb] w λe w'=>∃G gf cf zss,e=.returned (.tuple #[.slice (some ⟨G,0,none⟩) n3 n3,.int .i64 0])/\w.heap.size<=G/\SP w' G n3 n3 gf cf zss/\zss.length=n3/\(∀j,j<n3->same (zss.getD j []) ((io xss vs n2).getD (outs.getD j 0).toNat []))/\Kept 0 0 w w':=by
 have hok:=h
 have e1:=f.i.len
 have e2:=f.v.len
 have e3:=f.o.len
 unfold okG at hok
 simp only[Bool.and_eq_true,decide_eq_true_eq,e1,e2,e3] at hok
 obtain⟨⟨l1,l2,l3⟩,_,hv,ho,_⟩:=hok
 have HV:Hid _:=hv
 have HO:Hid _:=ho
 have HW:Hid _:=s7 (vs:=vs) hw (λk=>by
  rw[List.getD_eq_getElem?_getD]
  cases hh:vs[k]? with
  |none=>decide
  |some v=>exact f.v.lt v (List.mem_of_getElem? hh))
 have HLEN:Hid _:=jU (vs:=vs) h2 n2 hv
 have HM:Hid (m=n1):=by
  have:=h2
  unfold inB at this
  simp only[Bool.and_eq_true,decide_eq_true_eq,e1,s.len] at this
  exact this.1
 have hK:=hU 0 0 w (iv a1 n1 c1 a2 n2 c2 a3 n3 c3)
 have HX:Hid _:=mw _ a1 a2 a3 n1 c1 n2 c2 n3 c3 ins vs outs (f.keep hK)
 rw[h] at HX
 have HB:Hid _:=iO w (.slice a1 n1 c1) (.slice a2 n2 c2) (.slice a3 n3 c3)
 have HF:Hid _:=f.keep hK
 have HS:Hid _:=s.keep hK
 have HK:Hid _:=hK
 have HZ:Hid (w.heap.size+1<=(w.alloc (iv a1 n1 c1 a2 n2 c2 a3 n3 c3)).heap.size):=by show _<=_;simp
 clear hK h f s ho hv hw
 go_enter Tryz.func14,Tryz.ntmps14
 go_wp2_with fail
 generalize w.alloc (iv a1 n1 c1 a2 n2 c2 a3 n3 c3)=w1 at HX HB HF HS HK HZ ⊢
 refine Calls.mono HX.out ?_
 rintro e w2 ⟨rfl,k2⟩
 obtain⟨_,q0,q1,q2⟩:=G0.keep HB.out k2
 have HY:Hid _:=rK w2 _ _ a1 b n1 m c1 cb ins xss (GS.keep HF.out k2).i (SS.keep HS.out k2) (by omega)
 rw[h2] at HY
 have HK2:Hid _:=k2
 clear k2 HX
 go_wp2_with fail
 clear q0 q1 q2
 refine Calls.mono HY.out ?_
 rintro e w3 ⟨rfl,d3⟩
 have k3:=Kept.trans HK2.out (d3.kept 0 0)
 have hm:=yo n2 w3 (by omega)
 have HP:Hid _:=LV.made w3 n2 (io xss vs 0)
 have k4:=k3.trans (hU 0 0 w3 (.cells (madeCells #[.slice none 0 0] n2) 36))
 have q1':=(G0.keep HB.out k3).q1
 obtain⟨_,q0,q1,q2⟩:=G0.keep HB.out k4
 have HK3:Hid _:=k4
 have HZ3:Hid (w1.heap.size<=w3.heap.size):=k3.size
 clear d3 k3 k4 HY HK2
 generalize w3.alloc (.cells (madeCells #[.slice none 0 0] n2) 36)=w4 at hm HP HK3 q0 q1 q2
 go_wp2_with fail
 clear hm q1' q0 q1 q2
 go_loopw [27] (λi W=>∃k:Nat,k<=n2/\i=.int .i64 k/\Hid (LV W w3.heap.size n2 k (io xss vs k))/\Hid (Kept 0 0 w1 W)) (λi _=>n2-(intOf i).toNat)
 case atStart=>exact⟨0,Nat.zero_le _,rfl,HP,HK3⟩
 case round=>
  obtain⟨k,hk,rfl,hP,hK⟩:=hrel
  clear HP HK3
  by_cases hlt:k<n2
  ·have hF:=GS.keep HF.out hK.out
   rcases hF.v.at_ with z0|⟨ga,oa,ea,z1,z2,z3,z4⟩
   ·omega
   have hat:=z4 k hlt
   have hvk:=hF.v.lt
   have ok:okV ins vs k=true:=List.all_eq_true.1 HV.out k (List.mem_range.2 hlt)
   have kb:=hU 0 0 wr (ij (vs.getD k Vl.zero).op (vs.getD k Vl.zero).len (vs.getD k Vl.zero).a (vs.getD k Vl.zero).b (vs.getD k Vl.zero).c (vs.getD k Vl.zero).k)
   have HX:Hid _:=vp _ (vs.getD k Vl.zero) w3.heap.size n2 n2 m cb k b xss (io xss vs k) (hP.out.keep kb) (SS.keep HS.out (Kept.trans hK.out kb)) hk (by
     rw[List.getD_eq_getElem?_getD]
     cases hh:vs[k]? with
     |none=>decide
     |some v=>exact hvk v (List.mem_of_getElem? hh)) (HW.out k) (λh0=>by
     unfold okV at ok
     rw[if_pos h0] at ok
     simp only[Bool.and_eq_true] at ok
     have:=of_decide_eq_true ok.2.1
     rw[e1] at this
     rw[HM.out]
     exact this) (λh0=>by
     unfold okV at ok
     rw[if_neg h0] at ok
     simp only[Bool.and_eq_true] at ok
     exact ok.2.1)
   have HS1:Hid (∀{w':World} {b:Option Addr} {m c:Nat},Kept 0 0 wr w'->Cl w' (.slice b m c) (one xss (vs.getD k Vl.zero) (io xss vs k))->_):=λq hu=>hP.out.step hlt q hu
   have HKB:Hid _:=kb
   clear z1 z2 z3 z4 ok hvk hF kb
   generalize vs.getD k Vl.zero=v at hat HX HS1 HKB
   obtain⟨d0,d1,d2,d3,d4,d5⟩:=hat
   subst ea
   go_wp2_with fail
   refine Calls.mono HX.out ?_
   rintro e w5 ⟨b5,m5,c5,rfl,hc5,k5⟩
   have k6:=Kept.trans HKB.out k5
   have P5:=hP.out.keep k6
   obtain⟨b6,m6,c6,y1,_⟩:=P5.at_ k hlt
   have y2:=P5.free k
   have R1:Hid _:=HS1.out k6 hc5
   have R2:Hid _:=kT w1 w5 (Kept.trans hK.out k6) w3.heap.size k (.slice b5 m5 c5) HZ3.out
   clear P5 k6 k5 hc5 HX HS1 HKB d0 d1 d2 d3 d4 d5 hP hK
   go_wp2
   go_roundw
   case rel=>exact⟨k+1,by omega,by go_num,R1,R2⟩
   case measure=>simp[intOf];omega
  ·obtain rfl:k=n2:=by omega
   obtain⟨w5,hw5⟩:∃w5,w5=wr:=⟨_,rfl⟩
   subst hw5
   obtain⟨zss,hZ,hZs⟩:=hP.out.ss
   have q2:=(G0.keep HB.out hK.out).q2
   have hm:=yo n3 w5 (by omega)
   have kk:=hU 0 0 w5 (.cells (madeCells #[.slice none 0 0] n3) 36)
   have q2':=(G0.keep HB.out (Kept.trans hK.out kk)).q2
   have HZ4:Hid _:=hZ
   have HZS:Hid _:=hZs
   have HS0:Hid _:=SP.made w5 n3 id id (outs.map λo=>zss.getD o.toNat [])
   have HK5:Hid _:=kk
   have HK:Hid _:=Kept.trans HK.out hK.out
   have HLZ:Hid (w1.heap.size<=w5.heap.size):=hK.out.size
   have HKW:Hid _:=hK.out
   clear hP hZ hZs kk hK
   generalize w5.alloc (.cells (madeCells #[.slice none 0 0] n3) 36)=w6 at hm HS0 HK5 q2'
   go_wp2_with fail
   clear hm q2 q2'
   go_loopw [47] (λi W=>∃k:Nat,k<=n3/\i=.int .i64 k/\Hid (∃gf cf,SP W w5.heap.size n3 k gf cf (outs.map λo=>zss.getD o.toNat []))/\Hid (Kept 0 0 w5 W)) (λi _=>n3-(intOf i).toNat)
   case atStart=>exact⟨0,Nat.zero_le _,rfl,⟨id,id,HS0.out⟩,HK5⟩
   case round=>
    obtain⟨j,hj,rfl,hP,hK⟩:=hrel
    clear HS0 HK5
    obtain⟨gf,cf,hP⟩:=hP.out
    by_cases hlt:j<n3
    ·rcases (GS.keep HF.out (Kept.trans HKW.out hK.out)).o.at_ with z0|⟨ga,oa,ea,z1,z2,z3,z4⟩
     ·omega
     have c1:=z4 j hlt
     have hix:iL (outs.getD j 0) k=true:=List.all_eq_true.1 HO.out (outs.getD j 0) (by
      rw[List.getD_eq_getElem?_getD,List.getElem?_eq_getElem (by omega)]
      exact List.getElem_mem _)
     have hix2:=of_decide_eq_true hix
     have hy:(outs.map λo=>zss.getD o.toNat []).getD j []=zss.getD (outs.getD j 0).toNat []:=by
      exact oP _ _ (by omega)
     have HST:Hid (∀{w':World} {G c:Nat},Kept 0 0 wr w'->FO w' G _ _->wr.heap.size<=G->_<=c->_):=λq ho hG hc=>hP.step hlt q ho hG hc
     rw[hy] at HST
     obtain⟨o,ho⟩:∃o:Nat,outs.getD j 0=o:=⟨(outs.getD j 0).toNat,by omega⟩
     rw[ho,Int.toNat_natCast] at HST
     rw[ho] at c1 hix2
     have hon:o<k:=by omega
     rcases (SS.keep HZ4.out hK.out).at_ with z0|⟨gb,ob,eb,y1,y2⟩
     ·omega
     cases eb
     obtain⟨b1,cc1,g1,g2,g3⟩:=y2 o hon
     rw[Nat.zero_add] at g1
     have hlen:1<=(zss.getD o []).length/\(zss.getD o []).length<=1000:=by
      have s1:=jY (HZS.out o hon)
      have s2:=HLEN.out o hon
      have s3:=ja (List.all_eq_true.1 HV.out o (List.mem_range.2 hon))
      omega
     rcases g3.at_ with z0|⟨gc,oc,ec,x1,x2,x3,x4⟩
     ·omega
     have HC:Hid _:=E7 wr gc oc (zss.getD o []).length cc1 (zss.getD o []) hlen.1 (by omega) x3 rfl g3.lt x4
     have HPK:Hid (∀w',Kept 0 0 wr w'->w'.frozen? ⟨w5.heap.size,j,none⟩=false/\∃u,w'.cell? ⟨w5.heap.size,j,none⟩=some u):=λw' q=>⟨(hP.keep q).free j,(hP.keep q).rest j hlt⟩
     subst ea ec
     clear z1 z2 z3 z4 y1 y2 g2 g3 x1 x2 x3 x4 hy hix hix2 hP ho
     generalize zss.getD o []=ys at g1 HC HST hlen
     generalize ys.length=ny at g1 HC HST hlen
     go_wp2_with fail
     refine Calls.mono HC.out ?_
     rintro e w7 ⟨G,cap,rfl,h7,f7,b7,k7⟩
     have R1:Hid _:=HST.out k7 f7 b7 h7
     have R2:Hid _:=kT w5 w7 (Kept.trans hK.out k7) w5.heap.size j (.slice (some ⟨G,0,none⟩) ny cap) (Nat.le_refl _)
     obtain⟨fz,u,hu⟩:=HPK.out w7 k7
     clear HC HST HPK g1 f7 k7 c1 hK
     go_wp2
     go_roundw
     case rel=>exact⟨j+1,by omega,by go_num,⟨_,_,R1.out⟩,R2⟩
     case measure=>simp[intOf];omega
    ·obtain rfl:j=n3:=by omega
     have R1:Hid (Kept 0 0 w wr):=Kept.trans HK.out hK.out
     have R2:Hid (∀i,i<j->same ((outs.map λo=>zss.getD o.toNat []).getD i []) ((io xss vs k).getD (outs.getD i 0).toNat [])):=λi hi=>by
      have hix:iL (outs.getD i 0) k=true:=List.all_eq_true.1 HO.out (outs.getD i 0) (by
       rw[List.getD_eq_getElem?_getD,List.getElem?_eq_getElem (by omega)]
       exact List.getElem_mem _)
      have hix2:=of_decide_eq_true hix
      have hy:(outs.map λo=>zss.getD o.toNat []).getD i []=zss.getD (outs.getD i 0).toNat []:=by
       exact oP _ _ (by omega)
      rw[hy]
      exact HZS.out _ (by omega)
     have R3:Hid _:=hP
     clear hP hK
     go_wp2
     go_ret2
     exact⟨w5.heap.size,gf,cf,_,rfl,by have:=HLZ.out;have:=HZ.out;omega,R3.out,by rw[List.length_map];exact e3,R2.out,R1.out⟩
theorem yR (w:World)(lo hi:Nat)(a b:Option Addr)(n m ca cb:Nat)(ins:List Int)(xss:List (List Nat))(f:IS w lo hi a n ins)(g:SS w b m xss)(hn:n<=1099511627776):
  Calls Tryz.prog 20 #[.slice a n ca,.slice b m cb] w λe w'=>e=.returned (.bool (inB ins xss))/\Drawn w w':=by
 have HF:Hid _:=f
 have HG:Hid _:=g
 have HL:Hid (ins.length=n/\xss.length=m):=⟨f.len,g.len⟩
 clear f g
 by_cases hnm:m=n
 ·subst hnm
  go_enter Tryz.func20,Tryz.ntmps20
  go_wp2_with fail
  go_loopw [5] (λi W=>∃k:Nat,k<=m/\i=.int .i64 k/\Hid ((List.range k).all (λi=>((xss.getD i []).length:Int)==ins.getD i 0)=true)/\Hid (Drawn w W)) (λi _=>m-(intOf i).toNat)
  case atStart=>exact⟨0,Nat.zero_le _,rfl,rfl,Drawn.refl _⟩
  case round=>
   obtain⟨k,hk,rfl,hA,hD⟩:=hrel
   by_cases hlt:k<m
   ·rcases HF.out.at_ with z0|⟨ga,oa,ea,z1,z2,z3,z4⟩
    ·omega
    rcases HG.out.at_ with z0|⟨gb,ob,eb,y1,y2⟩
    ·omega
    have c1:=(hD.out.cell _).trans (z4 k hlt)
    obtain⟨b2,cc2,c2',_,_⟩:=y2 k hlt
    have c2:=(hD.out.cell _).trans c2'
    have j0:(0:Int)<=(k:Int):=by omega
    have j1:(k:Int)<(m:Int):=by omega
    subst ea eb
    clear z1 z2 z3 z4 y1 y2 c2'
    cases hx:(((xss.getD k []).length:Int)==ins.getD k 0)
    ·have R:Hid (inB ins xss=false):=by
      show inB ins xss=false
      unfold inB
      rw[HL.out.1,lG (p:=λi=>((xss.getD i []).length:Int)==ins.getD i 0) hlt hx,Bool.and_false]
     have hx':(((xss.getD k []).length:Int) !=ins.getD k 0)=true:=by rw[bne,hx];rfl
     generalize (xss.getD k []).length=y at c2 hx'
     generalize ins.getD k 0=x at c1 hx'
     clear hx hA
     go_wp2_with fail
     go_quiet (fail)
     go_wp2
     go_ret
     exact⟨by rw[R.out];rfl,Drawn.more hD.out _⟩
    ·have R:Hid _:=li (p:=λi=>((xss.getD i []).length:Int)==ins.getD i 0) hA.out hx
     have hx':(((xss.getD k []).length:Int) !=ins.getD k 0)=false:=by rw[bne,hx];rfl
     generalize (xss.getD k []).length=y at c2 hx'
     generalize ins.getD k 0=x at c1 hx'
     clear hx hA
     go_wp2_with fail
     go_quiet (fail)
     go_wp2
     go_roundw
     case rel=>exact⟨k+1,by omega,by go_num,R,Drawn.more hD.out _⟩
     case measure=>simp[intOf];omega
   ·have R:Hid (inB ins xss=true):=by
     have h1:=hA.out
     rw[show k=m by omega] at h1
     show inB ins xss=true
     unfold inB
     rw[HL.out.1,HL.out.2,h1,decide_eq_true rfl];rfl
    clear hA
    go_wp2
    go_ret
    exact⟨by rw[R.out];rfl,hD.out⟩
 ·have e:inB ins xss=false:=by
   unfold inB
   rw[HL.out.1,HL.out.2,decide_eq_false hnm,Bool.false_and]
  rw[e]
  have t:((n:Int) !=(m:Int))=true:=by simp;omega
  go_enter Tryz.func20,Tryz.ntmps20
  go_wp2
  go_ret
  exact⟨rfl,Drawn.refl _⟩
theorem yT (w:World)(g off n c:Nat)(xs:List Nat)(hn:1<=n)(hn2:n<=1000000)(hx:xs.length=n)(hlt:∀x∈xs,x<18446744073709551616)(hc:∀k,k<n->w.cell? ⟨g,off+k,none⟩=some (.float .f64 (xs.getD k 0))):
  Calls Tryz.prog 22 #[.slice (some ⟨g,off,none⟩) n c] w λe w'=>∃G cap,e=.returned (.slice (some ⟨G,0,none⟩) n cap)/\n<=cap/\FO w' G n xs/\w.heap.size<=G/\Kept 0 0 w w':=by
 obtain⟨i0,hi,hz0,hz1,hz2⟩:=info_parts lq
 have HN:Hid _:=vZ (w:=w) (g:=g) (off:=off) hx hc
 have HO:Hid _:=World.ownsRow_nil w w.heap.size 29 1
 have HX:Hid (xs.length=n):=hx
 have HLT:Hid _:=hlt
 clear hc hx hlt
 go_enter Tryz.func22,Tryz.ntmps22
 go_wp2_with (first|(at_builtin;refine wpList_append_own _ rfl _ _ 36 rfl w.heap.size 29 i0 (.float .f64 0) 1 8 Tryz.underlying36 hi hz0 hz1 hz2 rfl (by decide) _ _ _ rfl HO.out ⟨g,off,none⟩ n c (xs.map (Value.float .f64)) rfl ?c0 HN.out ?c2 ?c3 ?c4 ?c5 ?_))
 case c0=>exact HX.out
 case c2=>intro u hu;rfl
 case c3=>unfold maxLen;omega
 case c4=>omega
 intro v' w9 hown9 hg9 _
 have hown:w9.ownsRow w.heap.size 29 1 v' n (xs.map (Value.float .f64)):=by simpa using hown9
 obtain⟨G,cap,rfl,b1,b2,b3⟩:=FO.of_own hown (by omega) HX.out HLT.out
 have R:Hid _:=jS (base:=w.heap.size) hg9 (λk hk=>by simp[Value.ownBlock] at hk) (Kept.refl 0 0 w) (Nat.le_refl _)
 clear hown9 hg9 hown
 go_wp2
 go_ret
 exact⟨G,cap,by simp,b2,b3,b1,R.out⟩
theorem Dz (v:Vl)(hq:q<3):fld v q=[v.a,v.b,v.c].getD q 0:=by
 rcases (by omega:q=0\/q=1\/q=2) with rfl|rfl|rfl<;>rfl
theorem DA (v:Vl)(Vs:List (List Nat))(hq:q<cnt v.op):(opl v Vs (cnt v.op)).getD q []=Vs.getD (fld v q).toNat []:=by
 have:=jo v.op
 rcases (by omega:q=0\/q=1\/q=2) with rfl|rfl|rfl
 ·show(if 0<cnt v.op then _ else _)=_;rw[if_pos hq];rfl
 ·show(if 1<cnt v.op then _ else _)=_;rw[if_pos hq];rfl
 ·show(if 2<cnt v.op then _ else _)=_;rw[if_pos hq];rfl
theorem Bb (v:Vl)(Vs:List (List Nat))(hq:q<3)(h:¬q<cnt v.op):(opl v Vs (cnt v.op)).getD q []=[]:=by
 rcases (by omega:q=0\/q=1\/q=2) with rfl|rfl|rfl
 ·show(if 0<cnt v.op then _ else _)=_;rw[if_neg h]
 ·show(if 1<cnt v.op then _ else _)=_;rw[if_neg h]
 ·show(if 2<cnt v.op then _ else _)=_;rw[if_neg h]
theorem jW {xs:List Value}{W:World}(h:W.ownsRow base e size v n xs)(hk:v.ownBlock=some k):base<=k/\k<W.heap.size:=by
 rcases h.2 with⟨rfl,_⟩|⟨g,cap,cur,rfl,b1,b2,_⟩
 ·simp[Value.ownBlock] at hk
 ·have e:g=k:=by simpa[Value.ownBlock] using hk
  subst e
  refine⟨b1,?_⟩
  rcases Nat.lt_or_ge g W.heap.size with c|c
  ·exact c
  ·rw[Array.getElem?_eq_none c] at b2;cases b2
theorem nT {W:World}(h:∀j,j<k->∃b n c,us[j]? =some (.slice b n c)/\Cl W (.slice b n c) (Vs.getD j [])/\(0<n->∀p,b=some p->v.ownBlock≠some p.block))(q:Kept 0 0 W W'):
  ∀j,j<k->∃b n c,us[j]? =some (.slice b n c)/\Cl W' (.slice b n c) (Vs.getD j [])/\(0<n->∀p,b=some p->v.ownBlock≠some p.block):=λj hj=>by
 obtain⟨b,n,c,a1,a2,a3⟩:=h j hj
 exact⟨b,n,c,a1,a2.keep q,a3⟩
theorem nU {ys:List Nat}(h:xss.length=k):(xss++[ys]).getD k []=ys:=by
 rw[List.getD_eq_getElem?_getD,List.getElem?_append_right (by omega),h,Nat.sub_self];rfl
theorem ng {xs:List Int}(h:q<xs.length):xs.getD q 0∈xs:=by
 rw[List.getD_eq_getElem?_getD,List.getElem?_eq_getElem h]
 exact List.getElem_mem _
theorem DB (ok:okV ins vs k=true)(h0:(vs.getD k Vl.zero).op≠0):
  (1<=(vs.getD k Vl.zero).op/\(vs.getD k Vl.zero).op<=13)/\∀q,q<cnt (vs.getD k Vl.zero).op->0<=fld (vs.getD k Vl.zero) q/\fld (vs.getD k Vl.zero) q<k:=by
 unfold okV at ok
 rw[if_neg h0] at ok
 simp only[Bool.and_eq_true] at ok
 refine⟨?_,λq hq=>?_⟩
 ·by_cases c:0<=(vs.getD k Vl.zero).op/\(vs.getD k Vl.zero).op<=13
  ·omega
  ·have:=ok.2.2
   rw[pe c] at this
   cases this
 ·have h:=List.all_eq_true.1 ok.2.1 ((iV (vs.getD k Vl.zero)).getD q 0) (ng (by rw[nL];exact hq))
  have h2:=of_decide_eq_true h
  rw[ur _ hq,<-Dz _ (by have:=jo (vs.getD k Vl.zero).op;omega)] at h2
  exact h2
theorem E8 (ok:okV ins vs k=true)(h0:(vs.getD k Vl.zero).op=0):
  0<=(vs.getD k Vl.zero).a/\(vs.getD k Vl.zero).a<ins.length/\1<=(vs.getD k Vl.zero).len/\(vs.getD k Vl.zero).len<=1000/\(vs.getD k Vl.zero).len=ins.getD (vs.getD k Vl.zero).a.toNat 0:=by
 have l:=ja ok
 unfold okV at ok
 rw[if_pos h0] at ok
 simp only[Bool.and_eq_true] at ok
 have:=of_decide_eq_true ok.2.1
 exact⟨this.1,this.2,l.1,l.2,by simpa using ok.2.2⟩
def NC (w':World)(A B:Nat)(v:Vl)(x0 x1 x2:Value):Prop:=
 w'.cell? ⟨A,0,none⟩=some (.int .i64 v.op)/\w'.cell? ⟨A,0+1,none⟩=some (.int .i64 v.len)/\w'.cell? ⟨A,0+2,none⟩=some (.int .i64 v.a)/\w'.cell? ⟨A,0+3,none⟩=some (.int .i64 v.b)/\w'.cell? ⟨A,0+4,none⟩=some (.int .i64 v.c)/\w'.cell? ⟨A,0+5,none⟩=some (.float .f64 v.k)/\w'.cell? ⟨B,0,none⟩=some x0/\w'.cell? ⟨B,1,none⟩=some x1/\w'.cell? ⟨B,2,none⟩=some x2
theorem NC.of {v:Vl}(h:NC w A B v x0 x1 x2)(e:∀g o u,(g=A\/g=B)->w.cell? ⟨g,o,none⟩=some u->w'.cell? ⟨g,o,none⟩=some u):NC w' A B v x0 x1 x2:=by
 obtain⟨h0,h1,h2,h3,h4,h5,h6,h7,h8⟩:=h
 exact⟨e _ _ _ (.inl rfl) h0,e _ _ _ (.inl rfl) h1,e _ _ _ (.inl rfl) h2,e _ _ _ (.inl rfl) h3,e _ _ _ (.inl rfl) h4,e _ _ _ (.inl rfl) h5,e _ _ _ (.inr rfl) h6,e _ _ _ (.inr rfl) h7,e _ _ _ (.inr rfl) h8⟩
theorem NC.keep {v:Vl}(h:NC w A B v x0 x1 x2)(k:Kept 0 0 w w')(hA:A<w.heap.size)(hB:B<w.heap.size):NC w' A B v x0 x1 x2:=
 h.of λg o u hg hc=>jq k (by rcases hg with rfl|rfl;exact hA;exact hB) hc
theorem NC.far {N:Nat}{v:Vl}(h:NC w A B v x0 x1 x2)(hg:w.grownBy w' row)(hr:∀i,row=some i->i<N)(nA:N<=A)(nB:N<=B)(hA:A<w.heap.size)(hB:B<w.heap.size):NC w' A B v x0 x1 x2:=
 h.of λg o u hg' hc=>by
  rw[hg.cell_far ⟨g,o,none⟩ (by rcases hg' with rfl|rfl;exact hA;exact hB) (λc=>by have:=hr g c.symm;omega)]
  exact hc
theorem yU (w:World)(a1 a2 a3 b:Option Addr)(n1 c1 n2 c2 n3 c3 m cb:Nat)(ins:List Int)(vs:List Vl)(outs:List Int)(xss:List (List Nat))(f:GS w a1 n1 a2 n2 a3 n3 ins vs outs)(s:SS w b m xss)(hw:mF xss)(h:(List.range n2).all (okV ins vs)=true)(h2:inB ins xss=true)(l2:n2<=2000):
  Calls Tryz.prog 21 #[ip a1 n1 c1 a2 n2 c2 a3 n3 c3,.slice b m cb] w λe w'=>∃a cap zss,e=.returned (.slice a n2 cap)/\SS w' a n2 zss/\(∀j,j<n2->same (zss.getD j []) ((io xss vs n2).getD j []))/\Kept 0 0 w w':=by
 obtain⟨i0,hi,hz0,hz1,hz2⟩:=info_parts ui
 have e1:=f.i.len
 have e2:=f.v.len
 have HV:Hid _:=h
 have HW:Hid _:=s7 (vs:=vs) hw (λk=>by
  rw[List.getD_eq_getElem?_getD]
  cases hh:vs[k]? with
  |none=>decide
  |some v=>exact f.v.lt v (List.mem_of_getElem? hh))
 have HI:Hid (∀i,i<n1->((xss.getD i []).length:Int)=ins.getD i 0):=λi hi=>by
  have:=h2
  unfold inB at this
  simp only[Bool.and_eq_true,e1] at this
  simpa using List.all_eq_true.1 this.2 i (List.mem_range.2 hi)
 have HM:Hid (m=n1):=by
  have:=h2
  unfold inB at this
  simp only[Bool.and_eq_true,decide_eq_true_eq,e1,s.len] at this
  exact this.1
 have hK:=hU 0 0 w (iv a1 n1 c1 a2 n2 c2 a3 n3 c3)
 have HB:Hid _:=iO w (.slice a1 n1 c1) (.slice a2 n2 c2) (.slice a3 n3 c3)
 have HF:Hid _:=f.keep hK
 have HS:Hid _:=s.keep hK
 have HK:Hid _:=hK
 have HZ:Hid (w.heap.size+1<=(w.alloc (iv a1 n1 c1 a2 n2 c2 a3 n3 c3)).heap.size):=by show _<=_;simp
 clear hK h f s hw
 go_enter Tryz.func21,Tryz.ntmps21
 go_wp2_with fail
 generalize w.alloc (iv a1 n1 c1 a2 n2 c2 a3 n3 c3)=w1 at HB HF HS HK HZ ⊢
 go_loopw [5,6] (λu i W=>∃k:Nat,k<=n2/\i=.int .i64 k/\Hid (AR W w1.heap.size u k (io xss vs k))/\Hid (Kept 0 0 w1 W)) (λ_ i _=>n2-(intOf i).toNat)
 case atStart=>exact⟨0,Nat.zero_le _,rfl,AR.nil _ _ _,Kept.refl _ _ _⟩
 case round=>
  obtain⟨k,hk,rfl,hP,hK⟩:=hrel
  have q1:=(G0.keep HB.out hK.out).q1
  by_cases hlt:k<n2
  ·have hF:=GS.keep HF.out hK.out
   rcases hF.v.at_ with z0|⟨ga,oa,ea,z1,z2,z3,z4⟩
   ·omega
   have hat:=z4 k hlt
   have ok:okV ins vs k=true:=List.all_eq_true.1 HV.out k (List.mem_range.2 hlt)
   have hvk:(vs.getD k Vl.zero).k<18446744073709551616:=by
    rw[List.getD_eq_getElem?_getD]
    cases hh:vs[k]? with
    |none=>decide
    |some v=>exact hF.v.lt v (List.mem_of_getElem? hh)
   have HVK:Hid _:=hvk
   have kb:=hU 0 0 wr (ij (vs.getD k Vl.zero).op (vs.getD k Vl.zero).len (vs.getD k Vl.zero).a (vs.getD k Vl.zero).b (vs.getD k Vl.zero).c (vs.getD k Vl.zero).k)
   have HKB:Hid _:=kb
   obtain⟨us,hown,hus⟩:=hP.out
   have HRB:Hid (∀i,u5.ownBlock=some i->i<wr.heap.size):=λi hi=>(jW hown hi).2
   have HOWN:Hid _:=lw hown kb
   have HUS:Hid _:=hus
   clear hown hus
   by_cases hop:(vs.getD k Vl.zero).op=0
   ·have HV9:Hid (io xss vs (k+1)=io xss vs k++[xss.getD (vs.getD k Vl.zero).a.toNat []]):=by
     show _=_
     rw[io]
     unfold one
     rw[if_pos hop]
    have hin:=E8 ok hop
    rw[e1] at hin
    have hin2:=HI.out (vs.getD k Vl.zero).a.toNat (by omega)
    rw[<-hin.2.2.2.2] at hin2
    clear z1 z2 z3 z4 ok hF kb hvk
    generalize vs.getD k Vl.zero=v at hat HKB HOWN HV9 hop hin hin2 HVK
    obtain⟨op,len,A,B,C,K⟩:=v
    simp only at hop hin hin2 HV9
    subst hop
    obtain⟨x,rfl⟩:∃x:Nat,A=x:=⟨A.toNat,by omega⟩
    rw[Int.toNat_natCast] at hin2 HV9
    have hxm:x<m:=by have:=HM.out;omega
    rcases (SS.keep HS.out (Kept.trans hK.out HKB.out)).at_ with z0|⟨gb,ob,eb,y1,y2⟩
    ·omega
    obtain⟨b1,cc1,g1,g2,g3⟩:=y2 x hxm
    rcases g3.at_ with z0|⟨gc,oc,ec,x1,x2,x3,x4⟩
    ·omega
    have HC:Hid _:=yT _ gc oc (xss.getD x []).length cc1 (xss.getD x []) (by omega) (by omega) rfl g3.lt x4
    subst ea eb ec
    clear y1 y2 g2 g3 x1 x2 x3 x4
    generalize xss.getD x []=ys at g1 HC HV9 hin2
    obtain⟨ny,hny⟩:∃ny,ny=ys.length:=⟨_,rfl⟩
    rw[<-hny] at g1 HC hin2
    have HNY:Hid (ny=ys.length/\1<=ny/\ny<=1000):=⟨hny,by omega,by omega⟩
    clear hin hin2 hny
    obtain⟨d0,d1,d2,d3,d4,d5⟩:=hat
    simp only at d0 d1 d2 d3 d4 d5
    go_wp2_with fail
    refine Calls.mono HC.out ?_
    rintro e w5 ⟨G,cap,rfl,h7,f7,b7,k7⟩
    have hown:=lw HOWN.out k7
    have hz5:w1.heap.size<=w5.heap.size:=(Kept.trans hK.out (Kept.trans HKB.out k7)).size
    clear HC g1 d0 d1 d2 d3 d4 d5 q1
    go_wp2_with (first|(at_builtin;refine wpList_append_lies _ rfl _ _ 32 rfl w1.heap.size 36 i0 (.slice none 0 0) 1 24 Tryz.underlying32 hi hz0 hz1 hz2 rfl (by decide) _ _ us rfl (hown.alloc _) ⟨w5.heap.size,0,none⟩ 1 1 [.slice (some ⟨G,0,none⟩) ny cap] rfl rfl ?c1 ?c2 (by decide) ?c3 ?c4 ?c5 _ rfl ?_))
    case c1=>exact cell_one_new _ _ _
    case c2=>intro u hu;simp at hu;subst hu;rfl
    case c3=>unfold maxLen;omega
    case c4=>omega
    case c5=>simp;omega
    intro g9 cap9 w9 hown9 hg9 hat9 _
    have R1:Hid (AR w9 w1.heap.size (.slice (some ⟨g9,0,none⟩) (k+1) cap9) (k+1) (io xss vs (k+1))):=
     AR.step (W:=w5) (Vs:=io xss vs k) hown (nT HUS.out (Kept.trans HKB.out k7)) (x:=ys) ⟨_,_,_,ys,rfl,h7,f7.fs,rfl⟩ (λ_ p hp c=>by
      cases hp
      have:=(jW HOWN.out (k:=G) c).2
      omega) hown9 hg9 (by rcases hat9 with h|h;exact .inl h;exact .inr (by rw[h];simp)) (λj hj=>lH _ _ hj) (by rw[HV9.out];exact nU (kJ _ _ _))
    have R2:Hid _:=jS (base:=w1.heap.size) hg9 (λi hi=>(jW hown hi).1) ((Kept.trans hK.out (Kept.trans HKB.out k7)).trans (hU 0 0 w5 _)) (Nat.le_refl _)
    clear hown9 hg9 hat9 hown k7 f7 HUS HOWN HKB hP hK
    go_wp2
    go_roundw
    case rel=>exact⟨k+1,by omega,by go_num,R1,R2⟩
    case measure=>simp[intOf];omega
   ·have HV9:Hid (io xss vs (k+1)=io xss vs k++[kop (vs.getD k Vl.zero) (io xss vs k)]):=by
     show _=_
     rw[io]
     unfold one
     rw[if_neg hop]
     rfl
    have hops:=DB ok hop
    have HOPS:Hid _:=hops.2
    have hr:=hops.1
    clear hops z1 z2 z3 z4 ok hF kb hvk
    generalize vs.getD k Vl.zero=v at hat HKB HOWN HV9 hop hr HOPS HVK
    subst ea
    have HVB:Hid _:=s8 wr v
    have HVZ:Hid (wr.heap.size<(wr.alloc (ij v.op v.len v.a v.b v.c v.k)).heap.size):=by show _<_;simp
    obtain⟨d0,d1,d2,d3,d4,d5⟩:=hat
    have t0:(v.op==0)=false:=beq_eq_false_iff_ne.2 hop
    clear hop
    obtain⟨w2,hw2⟩:∃w2,w2=wr:=⟨_,rfl⟩
    subst hw2
    go_wp2_with fail
    clear d0 d1 d2 d3 d4 d5 q1 t0
    have HALL:Hid _:=(⟨us,HOWN.out,nT HUS.out HKB.out⟩:AR _ w1.heap.size _ k (io xss vs k))
    have HK3:Hid _:=Kept.trans hK.out HKB.out
    have HKV:=HKB
    clear HKB HOWN HUS hK
    generalize w2.alloc (ij v.op v.len v.a v.b v.c v.k)=w3 at HVB HVZ HALL HK3 HKV ⊢
    go_loopw [8,9] (λa i W=>∃q:Nat,q<=3/\i=.int .i64 q/\Hid (AR W w3.heap.size a q (opl v (io xss vs k) (cnt v.op)))/\Hid (Kept 0 0 w3 W)) (λ_ i _=>3-(intOf i).toNat)
    case atStart=>exact⟨0,Nat.zero_le _,rfl,AR.nil _ _ _,Kept.refl _ _ _⟩
    case round=>
     obtain⟨q,hq,rfl,hA,hKW⟩:=hrel
     obtain⟨s0,s1,s2,s3,s4,s5⟩:=HVB.out.keep HVZ.out hKW.out (.inr (.inr (Nat.le_refl _)))
     have HO:Hid _:=jE v.op wr (by omega) (by omega)
     rw[tZ hr.1 hr.2] at HO
     have hc3:=jo v.op
     by_cases hlt3:q<3
     ·obtain⟨vs3,hown3,hvs3⟩:=hA.out
      by_cases hqc:q<cnt v.op
      ·have hfq:=HOPS.out q hqc
       have tq:(q:Int)<(cnt v.op:Int):=by omega
       obtain⟨o,ho⟩:∃o:Nat,fld v q=o:=⟨(fld v q).toNat,by omega⟩
       have hX:=mL wr v q (by omega)
       have hE:=DA v (io xss vs k) hqc
       rw[ho] at hX hfq hE
       rw[Int.toNat_natCast] at hE
       have HX:Hid _:=hX
       have HE:Hid _:=hE
       obtain⟨gA,capA,eA,bA,ltA,cA⟩:=AR.cell HALL.out (by omega)
       obtain⟨b1,m1,cc1,g1,g2,_⟩:=cA o (by omega)
       have HG2:Hid _:=g2
       have hok:o<k:=by omega
       subst eA
       clear cA bA g2
       go_wp2_with (first|(go_at_call 45;refine Calls.mono HO.out ?_;rintro e w4 ⟨rfl,rfl⟩)|fail)
       refine Calls.mono HX.out ?_
       rintro e w5 ⟨rfl,k5⟩
       have hown5:=lw hown3 k5
       have g3:=jq (Kept.trans hKW.out k5) ltA g1
       have hz5:w3.heap.size<=w5.heap.size:=(Kept.trans hKW.out k5).size
       clear s0 s1 s2 s3 s4 s5 HX HO
       go_wp2_with (first|(at_builtin;refine wpList_append_lies _ rfl _ _ 32 rfl w3.heap.size 36 i0 (.slice none 0 0) 1 24 Tryz.underlying32 hi hz0 hz1 hz2 rfl (by decide) _ _ vs3 rfl (hown5.alloc _) ⟨w5.heap.size,0,none⟩ 1 1 [.slice b1 m1 cc1] rfl rfl ?c1 ?c2 (by decide) ?c3 ?c4 ?c5 _ rfl ?_))
       case c1=>exact cell_one_new _ _ _
       case c2=>intro u hu;simp at hu;subst hu;rfl
       case c3=>unfold maxLen;omega
       case c4=>omega
       case c5=>simp;omega
       intro g9 cap9 w9 hown9 hg9 hat9 _
       have R1:Hid (AR w9 w3.heap.size (.slice (some ⟨g9,0,none⟩) (q+1) cap9) (q+1) (opl v (io xss vs k) (cnt v.op))):=
        AR.step (W:=w5) (Vs:=opl v (io xss vs k) (cnt v.op)) hown5 (nT hvs3 k5) (x:=(io xss vs k).getD o []) (Cl.keep HG2.out (Kept.trans hKW.out k5)) (λhn p hp c=>by
         have h1:=(jW hown5 c).1
         have h2:=Cl.lt HG2.out hn p hp
         omega) hown9 hg9 (by rcases hat9 with h|h;exact .inl h;exact .inr (by rw[h];simp)) (λj hj=>rfl) HE.out
       have R2:Hid _:=jS (base:=w3.heap.size) hg9 (λi hi=>(jW hown5 hi).1) ((Kept.trans hKW.out k5).trans (hU 0 0 w5 _)) (Nat.le_refl _)
       clear hown9 hg9 hat9 hown5 k5 hvs3 hown3 hA hKW g3 g1
       go_wp2
       go_roundw
       case rel=>exact⟨q+1,by omega,by go_num,R1,R2⟩
       case measure=>simp[intOf];omega
      ·have tq:¬((q:Int)<(cnt v.op:Int)):=by omega
       have HE:Hid _:=Bb v (io xss vs k) hlt3 hqc
       have hz5:w3.heap.size<=wr.heap.size:=hKW.out.size
       go_wp2_with (first|(go_at_call 45;refine Calls.mono HO.out ?_;rintro e w4 ⟨rfl,rfl⟩)|(at_builtin;refine wpList_append_lies _ rfl _ _ 32 rfl w3.heap.size 36 i0 (.slice none 0 0) 1 24 Tryz.underlying32 hi hz0 hz1 hz2 rfl (by decide) _ _ vs3 rfl (hown3.alloc _) ⟨wr.heap.size,0,none⟩ 1 1 [.slice none 0 0] rfl rfl ?c1 ?c2 (by decide) ?c3 ?c4 ?c5 _ rfl ?_))
       case c1=>exact cell_one_new _ _ _
       case c2=>intro u hu;simp at hu;subst hu;rfl
       case c3=>unfold maxLen;omega
       case c4=>omega
       case c5=>simp;omega
       intro g9 cap9 w9 hown9 hg9 hat9 _
       have R1:Hid (AR w9 w3.heap.size (.slice (some ⟨g9,0,none⟩) (q+1) cap9) (q+1) (opl v (io xss vs k) (cnt v.op))):=
        AR.step (W:=wr) (Vs:=opl v (io xss vs k) (cnt v.op)) hown3 hvs3 (x:=[]) (Cl.nil _) (λhn=>absurd hn (Nat.lt_irrefl _)) hown9 hg9 (by rcases hat9 with h|h;exact .inl h;exact .inr (by rw[h];simp)) (λj hj=>rfl) HE.out
       have R2:Hid _:=jS (base:=w3.heap.size) hg9 (λi hi=>(jW hown3 hi).1) (Kept.trans hKW.out (hU 0 0 wr _)) (Nat.le_refl _)
       clear hown9 hg9 hat9 hvs3 hown3 hA hKW s0 s1 s2 s3 s4 s5 HO
       go_wp2
       go_roundw
       case rel=>exact⟨q+1,by omega,by go_num,R1,R2⟩
       case measure=>simp[intOf];omega
     ·obtain rfl:q=3:=by omega
      obtain⟨gB,capB,eB,bB,ltB,cB⟩:=AR.cell hA.out (by omega)
      obtain⟨x0,y0,p0,g0,f0,_⟩:=cB 0 (by omega)
      obtain⟨x1,y1,p1,g1,f1,_⟩:=cB 1 (by omega)
      obtain⟨x2,y2,p2,g2,f2,_⟩:=cB 2 (by omega)
      have HE:Hid (∀m,_):=λm=>uq (wr.drewN m) v HVK.out _ _ _ _ _ _ (f0.keep (iq 0 0 wr m)) (f1.keep (iq 0 0 wr m)) (f2.keep (iq 0 0 wr m)) (qC (HW.out k _))
      obtain⟨us,hownA,husA⟩:=AR.keep HALL.out hKW.out
      have HUSA:Hid _:=husA
      have HKX:Hid _:=Kept.trans HK3.out hKW.out
      have hzw:w1.heap.size<=wr.heap.size:=HKX.out.size
      subst eB
      have bB':=bB
      clear cB bB f0 f1 f2 husA hA HO HALL
      go_wp2_with fail
      have HNC:Hid (NC wr w2.heap.size gB v (.slice x0 y0 p0) (.slice x1 y1 p1) (.slice x2 y2 p2)):=⟨s0,s1,s2,s3,s4,s5,g0,g1,g2⟩
      have HGB:Hid (w3.heap.size<=gB/\gB<wr.heap.size/\w2.heap.size<wr.heap.size/\w2.heap.size<=gB):=⟨bB',ltB,by have:=hKW.out.size;have:=HVZ.out;omega,by have:=HVZ.out;omega⟩
      go_region_held3 (λw'=>w'.cell? ⟨w2.heap.size,0,none⟩=some (.int .i64 v.op)/\w'.cell? ⟨w2.heap.size,0+1,none⟩=some (.int .i64 v.len)/\w'.cell? ⟨w2.heap.size,0+2,none⟩=some (.int .i64 v.a)/\w'.cell? ⟨w2.heap.size,0+3,none⟩=some (.int .i64 v.b)/\w'.cell? ⟨w2.heap.size,0+4,none⟩=some (.int .i64 v.c)/\w'.cell? ⟨w2.heap.size,0+5,none⟩=some (.float .f64 v.k)/\w'.cell? ⟨gB,0,none⟩=some (.slice x0 y0 p0)/\w'.cell? ⟨gB,1,none⟩=some (.slice x1 y1 p1)/\w'.cell? ⟨gB,2,none⟩=some (.slice x2 y2 p2)) (go_keep)
       (first
        |(go_at_call 47;refine Calls.mono (HE.out _) ?_;rintro e w5 ⟨u,rfl,⟨b5,m5,c5,zs5,rfl,i1,i2,i3⟩,k5⟩;have hn5:=NC.keep HNC.out (Kept.trans (iq 0 0 wr 1) k5) HGB.out.2.2.1 HGB.out.2.1;obtain⟨j0,j1,j2,j3,j4,j5,j6,j7,j8⟩:=hn5)
        |(refine step_append_lies _ rfl (.tmp 55) (.tmp 67) 32 rfl w1.heap.size 36 i0 (.slice none 0 0) 1 24 Tryz.underlying32 hi hz0 hz1 hz2 rfl (by decide) _ _ us (by simp[Act.eval]) ((lw hownA (Kept.trans (iq 0 0 wr 1) k5)).alloc _) ⟨w5.heap.size,0,none⟩ 1 1 [.slice b5 m5 c5] (by simp[Act.eval]) rfl (cell_one_new _ _ _) (by intro u hu;simp at hu;subst hu;rfl) (by decide) (by unfold maxLen;omega) (by omega) (by have:=k5.size;simp at this;simp;omega) _ rfl ?_;intro g9 cap9 w9 hown9 hg9 hat9 _;have hn9:=NC.far (NC.keep HNC.out ((Kept.trans (iq 0 0 wr 1) k5).trans (hU 0 0 w5 (.cells #[.slice b5 m5 c5] 36))) HGB.out.2.2.1 HGB.out.2.1) hg9 HRB.out (Nat.le_refl _) HGB.out.2.2.2 (by have:=k5.size;have:=HGB.out;simp at*;omega) (by have:=k5.size;have:=HGB.out;simp at*;omega);obtain⟨l0,l1,l2,l3,l4,l5,l6,l7,l8⟩:=hn9))
      have hk5:Kept 0 0 wr w5:=Kept.trans (iq 0 0 wr 1) k5
      have R1:Hid (AR w9 w1.heap.size (.slice (some ⟨g9,0,none⟩) (k+1) cap9) (k+1) (io xss vs (k+1))):=
       AR.step (W:=w5) (Vs:=io xss vs k) (lw hownA hk5) (nT HUSA.out hk5) (x:=kop v (io xss vs k)) (Cn.cl ⟨_,_,_,zs5,rfl,i1,i2,i3⟩) (λh0 p hp c=>by
        have h1:=(jW hownA c).2
        have h2:=Cn.ge (W:=w5) (lo:=(wr.drewN 1).heap.size) ⟨_,_,_,zs5,rfl,i1,i2,i3⟩ h0 p hp
        have h3:(wr.drewN 1).heap.size=wr.heap.size:=rfl
        omega) hown9 hg9 (by rcases hat9 with h|h;exact .inl h;exact .inr h) (λj hj=>lH _ _ hj) (by rw[HV9.out];exact nU (kJ _ _ _))
      have R2:Hid _:=jS (base:=w1.heap.size) hg9 (λi hi=>(jW hownA hi).1) ((Kept.trans HKX.out hk5).trans (hU 0 0 w5 _)) (Nat.le_refl _)
      clear hown9 hg9 hat9 hownA HUSA HE HKX HNC HGB k5 hk5 i1 i2 i3 l0 l1 l2 l3 l4 l5 l6 l7 l8 j0 j1 j2 j3 j4 j5 j6 j7 j8 s0 s1 s2 s3 s4 s5
      go_wp2
      go_roundw
      case rel=>exact⟨k+1,by omega,by go_num,R1,R2⟩
      case measure=>simp[intOf];omega
  ·obtain rfl:k=n2:=by omega
   obtain⟨a,cap,zss,rfl,r1,r2⟩:=hP.out.ss
   have R1:Hid _:=r1
   have R2:Hid _:=r2
   have R3:Hid _:=Kept.trans HK.out hK.out
   clear r1 r2 hP hK
   go_wp2
   go_ret
   exact⟨a,cap,zss,rfl,R1.out,R2.out,R3.out⟩
theorem te (w:World)(a1 a2 a3 b:Option Addr)(n1 c1 n2 c2 n3 c3 m cb:Nat)(ins:List Int)(vs:List Vl)(outs:List Int)(f:GS w a1 n1 a2 n2 a3 n3 ins vs outs)(h:okG ins vs outs=false):
  Calls Tryz.prog 6 #[ip a1 n1 c1 a2 n2 c2 a3 n3 c3,.slice b m cb] w λe w'=>e=.returned (.tuple #[.slice none 0 0,.int .i64 1])/\Kept 0 0 w w':=by
 have hK:=hU 0 0 w (iv a1 n1 c1 a2 n2 c2 a3 n3 c3)
 have HX:Hid _:=kN _ a1 a2 a3 n1 c1 n2 c2 n3 c3 ins vs outs (f.keep hK)
 rw[h] at HX
 have HK:Hid _:=hK
 clear hK h f
 go_enter Tryz.func6,Tryz.ntmps6
 go_wp2_with fail
 refine Calls.mono HX.out ?_
 rintro e w2 ⟨rfl,k2⟩
 go_wp2
 go_ret2
 exact⟨rfl,Kept.trans HK.out k2⟩
theorem qE (w:World)(a1 a2 a3 b:Option Addr)(n1 c1 n2 c2 n3 c3 m cb:Nat)(ins:List Int)(vs:List Vl)(outs:List Int)(xss:List (List Nat))(f:GS w a1 n1 a2 n2 a3 n3 ins vs outs)(s:SS w b m xss)(h:okG ins vs outs=true)(h2:inB ins xss=false)(hn:n1<=1048576):
  Calls Tryz.prog 6 #[ip a1 n1 c1 a2 n2 c2 a3 n3 c3,.slice b m cb] w λe w'=>e=.returned (.tuple #[.slice none 0 0,.int .i64 4])/\Kept 0 0 w w':=by
 have hK:=hU 0 0 w (iv a1 n1 c1 a2 n2 c2 a3 n3 c3)
 have HX:Hid _:=kN _ a1 a2 a3 n1 c1 n2 c2 n3 c3 ins vs outs (f.keep hK)
 rw[h] at HX
 have HB:Hid _:=iO w (.slice a1 n1 c1) (.slice a2 n2 c2) (.slice a3 n3 c3)
 have HF:Hid _:=f.keep hK
 have HS:Hid _:=s.keep hK
 have HK:Hid _:=hK
 clear hK h f s
 go_enter Tryz.func6,Tryz.ntmps6
 go_wp2_with fail
 refine Calls.mono HX.out ?_
 rintro e w2 ⟨rfl,k2⟩
 obtain⟨_,q0,q1,q2⟩:=G0.keep HB.out k2
 have HY:Hid _:=yR w2 _ _ a1 b n1 m c1 cb ins xss (GS.keep HF.out k2).i (SS.keep HS.out k2) (by omega)
 rw[h2] at HY
 have HK2:Hid _:=Kept.trans HK.out k2
 clear k2 HX HK HF HS HB
 go_wp2_with fail
 refine Calls.mono HY.out ?_
 rintro e w3 ⟨rfl,k3⟩
 go_wp2
 go_ret2
 exact⟨rfl,Kept.trans HK2.out (k3.kept 0 0)⟩
theorem uu (w:World)(a1 a2 a3 b:Option Addr)(n1 c1 n2 c2 n3 c3 m cb:Nat)(ins:List Int)(vs:List Vl)(outs:List Int)(xss:List (List Nat))(f:GS w a1 n1 a2 n2 a3 n3 ins vs outs)(s:SS w b m xss)(hw:mF xss)(h:okG ins vs outs=true)(h2:inB ins xss=true):
  Calls Tryz.prog 6 #[ip a1 n1 c1 a2 n2 c2 a3 n3 c3,.slice b m cb] w λe w'=>∃a cap zss,e=.returned (.tuple #[.slice a n3 cap,.int .i64 0])/\SS w' a n3 zss/\(∀j,j<n3->same (zss.getD j []) ((io xss vs n2).getD (outs.getD j 0).toNat []))/\Kept 0 0 w w':=by
 obtain⟨i0,hi,hz0,hz1,hz2⟩:=info_parts ui
 have hok:=h
 have e1:=f.i.len
 have e2:=f.v.len
 have e3:=f.o.len
 unfold okG at hok
 simp only[Bool.and_eq_true,decide_eq_true_eq,e1,e2,e3] at hok
 obtain⟨⟨l1,l2,l3⟩,_,hv,ho,_⟩:=hok
 have HV:Hid _:=hv
 have HO:Hid _:=ho
 have HWX:Hid _:=hw
 have HLEN:Hid _:=jU (vs:=vs) h2 n2 hv
 have hK:=hU 0 0 w (iv a1 n1 c1 a2 n2 c2 a3 n3 c3)
 have HX:Hid _:=kN _ a1 a2 a3 n1 c1 n2 c2 n3 c3 ins vs outs (f.keep hK)
 rw[h] at HX
 have HB:Hid _:=iO w (.slice a1 n1 c1) (.slice a2 n2 c2) (.slice a3 n3 c3)
 have HF:Hid _:=f.keep hK
 have HS:Hid _:=s.keep hK
 have HK:Hid _:=hK
 clear hK h f s ho hv hw
 go_enter Tryz.func6,Tryz.ntmps6
 go_wp2_with fail
 generalize w.alloc (iv a1 n1 c1 a2 n2 c2 a3 n3 c3)=w1 at HX HB HF HS HK ⊢
 refine Calls.mono HX.out ?_
 rintro e w2 ⟨rfl,k2⟩
 obtain⟨_,q0,q1,q2⟩:=G0.keep HB.out k2
 have HY:Hid _:=yR w2 _ _ a1 b n1 m c1 cb ins xss (GS.keep HF.out k2).i (SS.keep HS.out k2) (by omega)
 rw[h2] at HY
 have HK2:Hid _:=k2
 clear k2 HX
 go_wp2_with fail
 clear q0 q1 q2
 refine Calls.mono HY.out ?_
 rintro e w3 ⟨rfl,d3⟩
 have k3:=Kept.trans HK2.out (d3.kept 0 0)
 obtain⟨_,q0,q1,q2⟩:=G0.keep HB.out k3
 have HZ:Hid _:=yU w3 a1 a2 a3 b n1 c1 n2 c2 n3 c3 m cb ins vs outs xss (GS.keep HF.out k3) (SS.keep HS.out k3) HWX.out HV.out h2 l2
 have HK3:Hid _:=k3
 clear d3 k3 HY HK2
 go_wp2_with fail
 clear q0 q1 q2
 refine Calls.mono HZ.out ?_
 rintro e w4 ⟨aA,capA,zss,rfl,hA,hs,k4⟩
 have HA:Hid _:=hA
 have HSM:Hid _:=hs
 have HK4:Hid _:=Kept.trans HK3.out k4
 clear HZ HK3 k4 hA hs
 go_wp2_with fail
 go_loopw [7,8] (λu i W=>∃k:Nat,k<=n3/\i=.int .i64 k/\Hid (AR W w4.heap.size u k (outs.map λo=>(io xss vs n2).getD o.toNat []))/\Hid (Kept 0 0 w4 W)) (λ_ i _=>n3-(intOf i).toNat)
 case atStart=>exact⟨0,Nat.zero_le _,rfl,AR.nil _ _ _,Kept.refl _ _ _⟩
 case round=>
  obtain⟨j,hj,rfl,hP,hK⟩:=hrel
  have q2:=(G0.keep HB.out (Kept.trans HK4.out hK.out)).q2
  by_cases hlt:j<n3
  ·rcases (GS.keep HF.out (Kept.trans HK4.out hK.out)).o.at_ with z0|⟨ga,oa,ea,z1,z2,z3,z4⟩
   ·omega
   have c1:=z4 j hlt
   have hix:iL (outs.getD j 0) n2=true:=List.all_eq_true.1 HO.out (outs.getD j 0) (ng (by omega))
   have hix2:=of_decide_eq_true hix
   have hy:=oP outs (io xss vs n2) (j:=j) (by omega)
   obtain⟨o,ho⟩:∃o:Nat,outs.getD j 0=o:=⟨(outs.getD j 0).toNat,by omega⟩
   rw[ho,Int.toNat_natCast] at hy
   rw[ho] at c1 hix2
   have HYY:Hid _:=hy
   have hon:o<n2:=by omega
   rcases (SS.keep HA.out hK.out).at_ with z0|⟨gb,ob,eb,y1,y2⟩
   ·omega
   obtain⟨b1,cc1,g1,g2,g3⟩:=y2 o hon
   have hsm:=HSM.out o hon
   have hlen:1<=(zss.getD o []).length/\(zss.getD o []).length<=1000:=by
    have s1:=jY hsm
    have s2:=HLEN.out o hon
    have s3:=ja (List.all_eq_true.1 HV.out o (List.mem_range.2 hon))
    omega
   have HSO:Hid _:=hsm
   rcases g3.at_ with z0|⟨gc,oc,ec,x1,x2,x3,x4⟩
   ·omega
   have HC:Hid _:=yT wr gc oc (zss.getD o []).length cc1 (zss.getD o []) hlen.1 (by omega) rfl g3.lt x4
   obtain⟨us,hown,hus⟩:=hP.out
   have HUS:Hid _:=hus
   subst ea eb ec
   clear z1 z2 z3 z4 y1 y2 g2 g3 x1 x2 x3 x4 hy hix hix2 hP ho hsm hus
   generalize zss.getD o []=ys at g1 HC HSO hlen
   obtain⟨ny,hny⟩:∃ny,ny=ys.length:=⟨_,rfl⟩
   rw[<-hny] at g1 HC hlen
   clear hny
   go_wp2_with fail
   refine Calls.mono HC.out ?_
   rintro e w5 ⟨G,cap,rfl,h7,f7,b7,k7⟩
   have hown5:=lw hown k7
   have hz5:w4.heap.size<=w5.heap.size:=(Kept.trans hK.out k7).size
   clear HC g1 q2 c1
   go_wp2_with (first|(at_builtin;refine wpList_append_lies _ rfl _ _ 32 rfl w4.heap.size 36 i0 (.slice none 0 0) 1 24 Tryz.underlying32 hi hz0 hz1 hz2 rfl (by decide) _ _ us rfl (hown5.alloc _) ⟨w5.heap.size,0,none⟩ 1 1 [.slice (some ⟨G,0,none⟩) ny cap] rfl rfl ?c1 ?c2 (by decide) ?c3 ?c4 ?c5 _ rfl ?_))
   case c1=>exact cell_one_new _ _ _
   case c2=>intro u hu;simp at hu;subst hu;rfl
   case c3=>unfold maxLen;omega
   case c4=>omega
   case c5=>simp;omega
   intro g9 cap9 w9 hown9 hg9 hat9 _
   have R1:Hid (AR w9 w4.heap.size (.slice (some ⟨g9,0,none⟩) (j+1) cap9) (j+1) (outs.map λo=>(io xss vs n2).getD o.toNat [])):=
    AR.step (W:=w5) (Vs:=outs.map λo=>(io xss vs n2).getD o.toNat []) hown5 (nT HUS.out k7) (x:=(io xss vs n2).getD o []) ⟨_,_,_,ys,rfl,h7,f7.fs,HSO.out⟩ (λ_ p hp c=>by
     cases hp
     have:=(jW hown (k:=G) c).2
     omega) hown9 hg9 (by rcases hat9 with h|h;exact .inl h;exact .inr (by rw[h];simp)) (λ_ _=>rfl) HYY.out
   have R2:Hid _:=jS (base:=w4.heap.size) hg9 (λi hi=>(jW hown5 hi).1) ((Kept.trans hK.out k7).trans (hU 0 0 w5 _)) (Nat.le_refl _)
   clear hown9 hg9 hat9 hown hown5 k7 f7 HUS hK
   go_wp2
   go_roundw
   case rel=>exact⟨j+1,by omega,by go_num,R1,R2⟩
   case measure=>simp[intOf];omega
  ·obtain rfl:j=n3:=by omega
   obtain⟨a,cap,yss,rfl,r1,r2⟩:=AR.ss hP.out
   have R1:Hid _:=r1
   have R2:Hid (∀i,i<j->same (yss.getD i []) ((io xss vs n2).getD (outs.getD i 0).toNat [])):=λi hi=>by
    rw[<-oP outs (io xss vs n2) (by omega)]
    exact r2 i hi
   have R3:Hid (Kept 0 0 w wr):=Kept.trans HK.out (Kept.trans HK4.out hK.out)
   clear r1 r2 hP hK
   go_wp2
   go_ret2
   exact⟨a,cap,yss,rfl,R1.out,R2.out,R3.out⟩
def OS (w:World)(lo:Nat)(a:Option Addr)(n cap:Nat)(zss:List (List Nat)):Prop:=
 (a=none/\n=0/\cap=0/\zss=[])\/∃g gf cf,a=some ⟨g,0,none⟩/\lo<=g/\SP w g n n gf cf zss/\zss.length=n
theorem OS.ss {zss:List (List Nat)}(h:OS w lo a n cap zss):SS w a n zss:=by
 rcases h with⟨rfl,rfl,rfl,rfl⟩|⟨g,gf,cf,rfl,h1,h2,h3⟩
 ·exact⟨rfl,.inl rfl⟩
 ·exact h2.ss h3
def EvS (ins:List Int)(vs:List Vl)(outs:List Int)(xss:List (List Nat))(n2 n3 N:Nat)(Cd:Int)(L:Nat->List Nat):Prop:=
 (okG ins vs outs=false/\N=0/\Cd=1)\/(okG ins vs outs=true/\inB ins xss=false/\N=0/\Cd=4)\/(okG ins vs outs=true/\inB ins xss=true/\N=n3/\Cd=0/\∀j,L j=(io xss vs n2).getD (outs.getD j 0).toNat [])
theorem EvS.some (ins:List Int)(vs:List Vl)(outs:List Int)(xss:List (List Nat))(n2 n3:Nat):∃N Cd L,EvS ins vs outs xss n2 n3 N Cd L:=by
 cases h1:okG ins vs outs
 ·exact⟨0,1,λ_=>[],.inl ⟨h1,rfl,rfl⟩⟩
 ·cases h2:inB ins xss
  ·exact⟨0,4,λ_=>[],.inr (.inl ⟨h1,h2,rfl,rfl⟩)⟩
  ·exact⟨n3,0,λj=>(io xss vs n2).getD (outs.getD j 0).toNat [],.inr (.inr ⟨h1,h2,rfl,rfl,λ_=>rfl⟩)⟩
theorem rL {c:Nat}:∀{zss:List (List Nat)},(∀j,j<zss.length->(zss.getD j []).length<=c)->qq zss<=c*zss.length
 |[],_=>by simp[qq]
 |xs::r,h=>by
  have h0:=h 0 (by simp)
  have h1:=rL (zss:=r) (λj hj=>h (j+1) (by simp;omega))
  simp only[qq,List.length_cons,Nat.mul_add,Nat.mul_one]
  have:(xs::r).getD 0 []=xs:=rfl
  rw[this] at h0
  omega
theorem uv (w:World)(a1 a2 a3 b:Option Addr)(n1 c1 n2 c2 n3 c3 m cb:Nat)(ins:List Int)(vs:List Vl)(outs:List Int)(xss:List (List Nat))(f:GS w a1 n1 a2 n2 a3 n3 ins vs outs)(s:SS w b m xss)(hw:mF xss)(hn:n1<=1048576)(N:Nat)(Cd:Int)(L:Nat->List Nat)(h:EvS ins vs outs xss n2 n3 N Cd L):
  Calls Tryz.prog 14 #[ip a1 n1 c1 a2 n2 c2 a3 n3 c3,.slice b m cb] w λe w'=>∃a cap zss,e=.returned (.tuple #[.slice a N cap,.int .i64 Cd])/\OS w' w.heap.size a N cap zss/\(∀j,j<N->same (zss.getD j []) (L j))/\(N<=50/\qq zss<=1000000/\∀j,j<N->(zss.getD j []).length<=1000)/\Kept 0 0 w w':=by
 rcases h with⟨h1,rfl,rfl⟩|⟨h1,h2,rfl,rfl⟩|⟨h1,h2,rfl,rfl,h3⟩
 ·exact(td w a1 a2 a3 b n1 c1 n2 c2 n3 c3 m cb ins vs outs f h1).mono λe w' h=>⟨none,0,[],h.1,.inl ⟨rfl,rfl,rfl,rfl⟩,λj hj=>absurd hj (Nat.not_lt_zero _),⟨by omega,by simp[qq],λj hj=>absurd hj (Nat.not_lt_zero _)⟩,h.2⟩
 ·exact(qD w a1 a2 a3 b n1 c1 n2 c2 n3 c3 m cb ins vs outs xss f s h1 h2 hn).mono λe w' h=>⟨none,0,[],h.1,.inl ⟨rfl,rfl,rfl,rfl⟩,λj hj=>absurd hj (Nat.not_lt_zero _),⟨by omega,by simp[qq],λj hj=>absurd hj (Nat.not_lt_zero _)⟩,h.2⟩
 ·refine(ut w a1 a2 a3 b n1 c1 n2 c2 N c3 m cb ins vs outs xss f s hw h1 h2).mono ?_
  rintro e w' ⟨G,gf,cf,zss,r1,r2,r3,r4,r5,r6⟩
  have hok:=h1
  unfold okG at hok
  simp only[Bool.and_eq_true,decide_eq_true_eq,f.v.len,f.o.len] at hok
  obtain⟨⟨_,_,l3⟩,_,hv,ho,_⟩:=hok
  have hb:∀j,j<N->(zss.getD j []).length<=1000:=λj hj=>by
   have s1:=jY (r5 j hj)
   have hix:=of_decide_eq_true (List.all_eq_true.1 ho (outs.getD j 0) (ng (by rw[f.o.len];exact hj)))
   have s2:=jU h2 n2 hv (outs.getD j 0).toNat (by omega)
   have s3:=ja (List.all_eq_true.1 hv (outs.getD j 0).toNat (List.mem_range.2 (by omega)))
   omega
  have ht:=rL (zss:=zss) (c:=1000) (λj hj=>hb j (by omega))
  exact⟨_,N,zss,r1,.inr ⟨G,gf,cf,rfl,r2,r3,r4⟩,λj hj=>by rw[h3];exact r5 j hj,⟨l3,by rw[r4] at ht;omega,hb⟩,r6⟩
theorem uw (w:World)(a1 a2 a3 b:Option Addr)(n1 c1 n2 c2 n3 c3 m cb:Nat)(ins:List Int)(vs:List Vl)(outs:List Int)(xss:List (List Nat))(f:GS w a1 n1 a2 n2 a3 n3 ins vs outs)(s:SS w b m xss)(hw:mF xss)(hn:n1<=1048576)(N:Nat)(Cd:Int)(L:Nat->List Nat)(h:EvS ins vs outs xss n2 n3 N Cd L):
  Calls Tryz.prog 6 #[ip a1 n1 c1 a2 n2 c2 a3 n3 c3,.slice b m cb] w λe w'=>∃a cap zss,e=.returned (.tuple #[.slice a N cap,.int .i64 Cd])/\SS w' a N zss/\(∀j,j<N->same (zss.getD j []) (L j))/\Kept 0 0 w w':=by
 rcases h with⟨h1,rfl,rfl⟩|⟨h1,h2,rfl,rfl⟩|⟨h1,h2,rfl,rfl,h3⟩
 ·exact(te w a1 a2 a3 b n1 c1 n2 c2 n3 c3 m cb ins vs outs f h1).mono λe w' h=>⟨none,0,[],h.1,⟨rfl,.inl rfl⟩,λj hj=>absurd hj (Nat.not_lt_zero _),h.2⟩
 ·exact(qE w a1 a2 a3 b n1 c1 n2 c2 n3 c3 m cb ins vs outs xss f s h1 h2 hn).mono λe w' h=>⟨none,0,[],h.1,⟨rfl,.inl rfl⟩,λj hj=>absurd hj (Nat.not_lt_zero _),h.2⟩
 ·refine(uu w a1 a2 a3 b n1 c1 n2 c2 N c3 m cb ins vs outs xss f s hw h1 h2).mono ?_
  rintro e w' ⟨a,cap,zss,r1,r2,r3,r4⟩
  exact⟨a,cap,zss,r1,r2,λj hj=>by rw[h3];exact r3 j hj,r4⟩
theorem DD {W:World}{ln:Int}{ta:Int}{K:Act->World->Prop}{a b c j k m n p q x A B C E M N cl dn dz:Value}(HM:Hid (MS w W b1 m1 e1 b3 m3 e3 vs ⟨o,ln,va,vb,vc,vk⟩ base R R' a2 cap))(hbd:vs.length<=900000)
  (hk:∀(W':World) (g' cap':Nat) (u246 u247 u248 u249 u250 u251 u252 u253 u254:Value),Hid (MS w W' b1 m1 e1 b3 m3 e3 (vs++[(ik o ln ta 0 vc)]) ⟨o,ln,va,vb,vc,vk⟩ base R (some g') (some ⟨g',0,none⟩) cap')->K ⟨#[a,b,.int .i64 ta,c,d,.pointer (some ⟨w.heap.size,0,none⟩),f,h,i,j,k,l,.pointer (some ⟨w.heap.size+1+1,0,none⟩),.int .i64 ln,m,n,p,q,r,s,t,u,x,y,z,A,B,C,D,E,F,G,H,I,J,L,M,N,O,P,Q,S,T,U,V,X,Y,Z,aa,ab,ad,ae,af,ag,ah,ai,aj,ak,al,am,an,ao,ap,aq,ar,au,av,aw,ax,ay,az,aA,aB,aC,aD,aE,aF,aG,aH,aI,aJ,aK,aL,aM,aN,aO,aP,aQ,aR,aS,aT,aU,aV,aW,aX,aY,aZ,a0,a1,a3,a4,a5,a6,a7,a8,a9,ba,bb,bc,bd,be,bf,bg,bh,bi,bj,bk,bl,bm,bn,bo,bp,bq,br,bs,bt,bu,bv,bw,bx,bz,bA,bB,bC,bD,bE,bF,bG,bH,bI,bJ,bK,bL,bM,bN,bO,bP,bQ,bR,bS,bT,bU,bV,bW,bX,bY,bZ,b0,b2,b4,b5,b6,b7,b8,b9,ca,cb,cc,cd,ce,cf,cg,ch,ci,cj,ck,cl,cm,cn,co,cp,cq,cr,cs,ct,cu,cv,cw,cx,cy,cz,cA,cB,cC,cD,cE,cF,cG,cH,cI,cJ,cK,cL,cM,cN,cO,cP,cQ,cR,cS,cT,cU,cV,cW,cX,cY,cZ,c5,da,db,dc,dd,de,df,dg,dh,di,dj,dk,dl,dm,dn,dp,dq,dr,ds,dt,du,dv,dw,dx,dy,dz,dA,dB,dC,u246,u247,u248,u249,u250,u251,u252,u253,u254,dD,dE,dF],[]⟩ W'):
  Code.wp Tryz.prog (qT 58) (Exit.then K λ_ _ _=>False) ⟨#[a,b,.int .i64 ta,c,d,.pointer (some ⟨w.heap.size,0,none⟩),f,h,i,j,k,l,.pointer (some ⟨w.heap.size+1+1,0,none⟩),.int .i64 ln,m,n,p,q,r,s,t,u,x,y,z,A,B,C,D,E,F,G,H,I,J,L,M,N,O,P,Q,S,T,U,V,X,Y,Z,aa,ab,ad,ae,af,ag,ah,ai,aj,ak,al,am,an,ao,ap,aq,ar,au,av,aw,ax,ay,az,aA,aB,aC,aD,aE,aF,aG,aH,aI,aJ,aK,aL,aM,aN,aO,aP,aQ,aR,aS,aT,aU,aV,aW,aX,aY,aZ,a0,a1,a3,a4,a5,a6,a7,a8,a9,ba,bb,bc,bd,be,bf,bg,bh,bi,bj,bk,bl,bm,bn,bo,bp,bq,br,bs,bt,bu,bv,bw,bx,bz,bA,bB,bC,bD,bE,bF,bG,bH,bI,bJ,bK,bL,bM,bN,bO,bP,bQ,bR,bS,bT,bU,bV,bW,bX,bY,bZ,b0,b2,b4,b5,b6,b7,b8,b9,ca,cb,cc,cd,ce,cf,cg,ch,ci,cj,ck,cl,cm,cn,co,cp,cq,cr,cs,ct,cu,cv,cw,cx,cy,cz,cA,cB,cC,cD,cE,cF,cG,cH,cI,cJ,cK,cL,cM,cN,cO,cP,cQ,cR,cS,cT,cU,cV,cW,cX,cY,cZ,c5,da,db,dc,dd,de,df,dg,dh,di,dj,dk,dl,dm,dn,dp,dq,dr,ds,dt,du,dv,dw,dx,dy,dz,dA,dB,dC,dG,dH,dI,dJ,dK,dL,dM,dN,dO,dD,dE,dF],[]⟩ W:=by
 have HK:Hid _:=hk
 clear hk
 have s0:=HM.out.g.c0
 have s1:=HM.out.g.c1
 have s2:=HM.out.g.c2
 have v0:=HM.out.v.c0
 have v4:=HM.out.v.c4
 conv=>arg 2;whnf
 go_region_with (first
  |(go_at_call 50;refine Calls.mono (MS.call HM.out ((ie W).trans k1) (ik o ln ta 0 vc) (by omega)) ?_;rintro e w2 ⟨g',cap',rfl,⟨u0,r0⟩,⟨u1,r1⟩,⟨u2,r2⟩,rf,_,hM2⟩;have rf0:=rf 0;have rf1:=rf 1;have rf2:=rf 2;clear rf)
  |(go_at_call 55;refine Calls.mono (lz _ _ _ _ _ _) ?_;rintro e w1 ⟨rfl,k1⟩;have p0:=(MS.keep HM.out ((ie W).trans k1)).g.c0;have p1:=(MS.keep HM.out ((ie W).trans k1)).g.c1;have p2:=(MS.keep HM.out ((ie W).trans k1)).g.c2))
 all_goals exact HK.out _ _ _ _ _ _ _ _ _ _ _ _ hM2
theorem DE {W:World}{ln:Int}{N:Int}{K:Act->World->Prop}{a c j k m n p q x A B C E M cl dn dz dP dQ dR:Value}(HM:Hid (MS w W b1 m1 e1 b3 m3 e3 vs ⟨o,ln,va,vb,vc,vk⟩ base R R' a2 cap))(hbd:vs.length<=900000)(hN:(vs.length:Int)-1=N)
  (hk:∀(W':World) (u255 u256 u257:Value),W'.cell? ⟨w.heap.size+1,0,none⟩=some (.slice b1 m1 e1)->W'.cell? ⟨w.heap.size+1,1,none⟩=some (.slice a2 vs.length cap)->W'.cell? ⟨w.heap.size+1,2,none⟩=some (.slice b3 m3 e3)->Hid (∃w3,Kept 0 0 W w3/\W'=iM w3 (w.heap.size+1) (.slice b1 m1 e1) (.slice a2 vs.length cap) (.slice b3 m3 e3))->K ⟨#[a,c,d,f,h,.pointer (some ⟨w.heap.size,0,none⟩),i,j,k,l,.pointer (some ⟨w.heap.size+1,0,none⟩),.int .i64 N,m,n,p,q,r,s,t,u,v,x,y,z,A,B,C,D,E,F,G,H,I,J,L,M,O,P,Q,S,T,U,V,X,Y,Z,aa,ab,ad,ae,af,ag,ah,ai,aj,ak,al,am,an,ao,ap,aq,ar,au,av,aw,ax,ay,az,aA,aB,aC,aD,aE,aF,aG,aH,aI,aJ,aK,aL,aM,aN,aO,aP,aQ,aR,aS,aT,aU,aV,aW,aX,aY,aZ,a0,a1,a3,a4,a5,a6,a7,a8,a9,ba,bb,bc,bd,be,bf,bg,bh,bi,bj,bk,bl,bm,bn,bo,bp,bq,br,bs,bt,bu,bv,bw,bx,bz,bA,bB,bC,bD,bE,bF,bG,bH,bI,bJ,bK,bL,bM,bN,bO,bP,bQ,bR,bS,bT,bU,bV,bW,bX,bY,bZ,b0,b2,b4,b5,b6,b7,b8,b9,ca,cb,cc,cd,ce,cf,cg,ch,ci,cj,ck,cl,cm,cn,co,cp,cq,cr,cs,ct,cu,cv,cw,cx,cy,cz,cA,cB,cC,cD,cE,cF,cG,cH,cI,cJ,cK,cL,cM,cN,cO,cP,cQ,cR,cS,cT,cU,cV,cW,cX,cY,cZ,c5,da,db,dc,dd,de,df,dg,dh,di,dj,dk,dl,dm,dn,dp,dq,dr,ds,dt,du,dv,dw,dx,dy,dz,dA,dB,dC,dD,dE,dF,dG,dH,dI,dJ,dK,dL,dM,dN,u255,u256,u257],[]⟩ W'):
  Code.wp Tryz.prog (qT 59) (Exit.then K λ_ _ _=>False) ⟨#[a,c,d,f,h,.pointer (some ⟨w.heap.size,0,none⟩),i,j,k,l,.pointer (some ⟨w.heap.size+1,0,none⟩),dO,m,n,p,q,r,s,t,u,v,x,y,z,A,B,C,D,E,F,G,H,I,J,L,M,O,P,Q,S,T,U,V,X,Y,Z,aa,ab,ad,ae,af,ag,ah,ai,aj,ak,al,am,an,ao,ap,aq,ar,au,av,aw,ax,ay,az,aA,aB,aC,aD,aE,aF,aG,aH,aI,aJ,aK,aL,aM,aN,aO,aP,aQ,aR,aS,aT,aU,aV,aW,aX,aY,aZ,a0,a1,a3,a4,a5,a6,a7,a8,a9,ba,bb,bc,bd,be,bf,bg,bh,bi,bj,bk,bl,bm,bn,bo,bp,bq,br,bs,bt,bu,bv,bw,bx,bz,bA,bB,bC,bD,bE,bF,bG,bH,bI,bJ,bK,bL,bM,bN,bO,bP,bQ,bR,bS,bT,bU,bV,bW,bX,bY,bZ,b0,b2,b4,b5,b6,b7,b8,b9,ca,cb,cc,cd,ce,cf,cg,ch,ci,cj,ck,cl,cm,cn,co,cp,cq,cr,cs,ct,cu,cv,cw,cx,cy,cz,cA,cB,cC,cD,cE,cF,cG,cH,cI,cJ,cK,cL,cM,cN,cO,cP,cQ,cR,cS,cT,cU,cV,cW,cX,cY,cZ,c5,da,db,dc,dd,de,df,dg,dh,di,dj,dk,dl,dm,dn,dp,dq,dr,ds,dt,du,dv,dw,dx,dy,dz,dA,dB,dC,dD,dE,dF,dG,dH,dI,dJ,dK,dL,dM,dN,dP,dQ,dR],[]⟩ W:=by
 have HK:Hid _:=hk
 clear hk
 have s0:=HM.out.g.c0
 have s1:=HM.out.g.c1
 have s2:=HM.out.g.c2
 obtain⟨_,t0,t1,t2,x0,x1,x2⟩:=HM.out.b
 have HLast:Hid (∀W:World,_):=λW=>kY W b1 a2 b3 m1 e1 vs.length cap m3 e3 (by omega)
 rw[hN] at HLast
 clear hN
 conv=>arg 2;whnf
 go_region_with (first
  |(go_at_call 52;refine Calls.mono (HLast.out _) ?_;rintro e w3 ⟨rfl,k3⟩;clear t0 t1 t2 x0 x1 x2;obtain⟨⟨_,_,q0,q1,q2,_,_,_,_⟩,⟨_,t0,t1,t2,x0,x1,x2⟩,_,_,_,_,_⟩:=MS.keep HM.out ((ie W).trans k3)))
 all_goals
  obtain⟨y0,y1,y2⟩:=iy w3 (w.heap.size+1) _ _ _ t0 t1 t2 (.slice b1 m1 e1) (.slice a2 vs.length cap) (.slice b3 m3 e3)
  exact HK.out _ _ _ _ y0 y1 y2 ⟨w3,(ie W).trans k3,rfl⟩
end Go.Proofs.YtnlffngpnoodkaaGreat
