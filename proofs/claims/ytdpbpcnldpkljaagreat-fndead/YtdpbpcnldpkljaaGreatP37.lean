import Derived.Test.YtdpbpcnldpkljaaGreatP36
namespace Go.Proofs.Z
open Tryz
set_option maxRecDepth 1000000
set_option maxHeartbeats 0
section
open Go.RowKit Flt
theorem W0n (s:Bool){r:Nat}(h0:0<r)(h:r<=9218868437227405312):(FloatKind.f64.format.order (W s r) 0==some .eq)=false:=by
 rw[show FloatKind.f64.format.order (W s r) 0=_ from mO h0 h];cases s<;>rfl
theorem GF (x y:Nat)(w:World)(hx:x<18446744073709551616)(hy:y<18446744073709551616):
  Calls prog 39 #[.float .f64 x,.float .f64 y] w λe w'=>e=.returned (.bool ((fb x:Int)==(fb y:Int)))/\w'=w:=by
 obtain⟨s,r,hr,rfl⟩:=kM x hx
 obtain⟨t,q,hq,rfl⟩:=kM y hy
 clear hx hy
 by_cases h1:r<=9218868437227405312
 ·have n1:=oE (s:=s) h1
  by_cases h2:q<=9218868437227405312
  ·have n2:=oE (s:=t) h2
   rw[ry h1,ry h2,Ho hr hq]
   by_cases hz:r=0/\q=0
   ·obtain⟨rfl,rfl⟩:=hz
    have a1:FloatKind.f64.format.order (W s 0) 0=some .eq:=jy
    have a2:FloatKind.f64.format.order (W t 0) 0=some .eq:=jy
    have b1:=λw=>run_float_arith (P:=prog) w .quo 33 .f64 4607182418800017408 (W s 0) (W s 9218868437227405312) mj
    have b2:=λw=>run_float_arith (P:=prog) w .quo 33 .f64 4607182418800017408 (W t 0) (W t 9218868437227405312) mj
    have c1:FloatKind.f64.format.order (W s 9218868437227405312) 0=some (if s then .lt else .gt):=mO xaa xaa
    have c2:FloatKind.f64.format.order (W t 9218868437227405312) 0=some (if t then .lt else .gt):=mO xaa xaa
    cases s<;>cases t
    all_goals
     go_enter func39,ntmps39
     go_wp2
     go_ret
     exact⟨rfl,rfl⟩
   ·have hE:(FloatKind.f64.format.order (W s r) (W t q)==some .eq)=_:=uG (s:=s) (t:=t) h1 h2
    rw[show decide (r=q/\(s=t\/r=0))=decide (r=q/\s=t) by
     rw[Bool.eq_iff_iff];simp only[decide_eq_true_eq];constructor
     ·rintro⟨a,b|b⟩
      ·exact⟨a,b⟩
      ·exact absurd ⟨b,by omega⟩ hz
     ·rintro⟨a,b⟩;exact⟨a,.inl b⟩] at hE
    generalize decide (r=q/\s=t)=D at hE ⊢
    by_cases hr0:r=0
    ·have hq0:0<q:=xaa
     subst hr0
     have a1:FloatKind.f64.format.order (W s 0) 0=some .eq:=jy
     have a2:=W0n t hq0 h2
     exact xjg
    ·have a1:=W0n s (by omega:0<r) h1
     exact xjg
  ·have n2:=oF (s:=t) (by omega:9218868437227405312<q) hq
   rw[ry h1,oY xaa hq,show(((9221120237041090560:Nat)):Int)=9221120237041090560 from rfl,(sT h1).1]
   exact xey
 ·have n1:=oF (s:=s) (by omega:9218868437227405312<r) hr
  by_cases h2:q<=9218868437227405312
  ·have n2:=oE (s:=t) h2
   rw[ry h2,oY xaa hr,show(((9221120237041090560:Nat)):Int)=9221120237041090560 from rfl,(sT h2).2]
   exact xey
  ·have n2:=oF (s:=t) (by omega:9218868437227405312<q) hq
   rw[oY xaa hr,oY xaa hq,show(((9221120237041090560:Nat):Int)==((9221120237041090560:Nat):Int))=true from beq_self_eq_true _]
   exact xey
end
section
open Go.RowKit Flt
attribute [local go_sem] eD eB eA
variable {w0 w W' W1:World} {P H n cap Q d1 G2 d2 n1 c1 d3 c3 n3 j base c d c2 x:Nat} {a a1 a3 B1 B3 a2:Option Addr} {bs ins os outs:List Int} {S us vs:List Vl} {b f g l p q s r u t A z y B C F G I J K L N O R U T V X Y Z aa ab ad ae af ag ah ai aj ak al am an ao ap aq ar au av aw ax ay az aA aB aC aD aE aF aG aH aI aJ aK aL aM aN aO aP aQ aR aS aT aU aV aW aX aY aZ a0 a4 a5 a6 a7 a8 a9 ba bb bc bd be bf bg bh bi bj bk bl bm bn bo bp bq br bu bv bw bz bA bx bB bC bD bE bF bG bH bI bJ bK bL bM bN bO bP bQ bR bS bT bU bV bW bX bY bZ b0 b1 b2 b3 b4 b6 b5 b7 b8 b9 ca cd cb cc ce cf cg ch ci cj ck cl cn co cq cr cs ct cu cw cx cy cz cA cB cC cD cE cF cG cH cI cJ cK cL cM cN cO cP cQ cR cS cT cU cV:Value} {m:Int}
theorem qU (w:World)(a b:Option Addr)(n c d:Nat)(xs:List Int)(fa:IS w 0 w.heap.size a n xs)(fb:IS w 0 w.heap.size b n xs)(hn:n<=1000000):
  Calls prog 17 #[.slice a n c,.slice b n d] w λe w'=>e=.returned (.bool true)/\Kept 0 0 w w':=by
 have HA:Hid _:=fa
 have HB:Hid _:=fb
 clear fa fb
 go_enter func17,ntmps17
 go_wp2_with fail
 go_loopw [5] (λi W=>∃k:Nat,k<=n/\i=.int .i64 k/\Hid (Kept 0 0 w W)) (λi _=>n-(intOf i).toNat)
 case atStart=>exact⟨0,Nat.zero_le _,rfl,Kept.refl _ _ _⟩
 case round=>
  obtain⟨k,hk,rfl,hK⟩:=hrel
  by_cases hlt:k<n
  ·obtain⟨g,off,m,rfl,em,_,_,ca⟩:=(IS.keep HA.out hK.out yaa).at_idx (o:=k) xaa xaa
   obtain⟨g',off',m',rfl,em',_,_,cb⟩:=(IS.keep HB.out hK.out yaa).at_idx (o:=k) xaa xaa
   obtain rfl:k=m:=xaa
   obtain rfl:k=m':=xaa
   generalize xs.getD (k:Int).toNat 0=x at ca cb
   clear em em'
   go_wp2_with fail
   go_region
   all_goals
    go_wp2
    go_roundw
    case rel=>exact⟨k+1,by omega,by go_num,Kept.drew hK.out⟩
    case measure=>simp[intOf];omega
  ·obtain rfl:k=n:=xaa
   go_wp2
   go_ret
   exact⟨rfl,hK.out⟩
theorem AY (w:World)(v:Vl)(hv:v.k<18446744073709551616):Calls prog 18 #[v.agg,v.agg] w λe w'=>e=.returned (.bool true)/\Kept 0 0 w w':=by
 have HF:Hid (∀W,Calls prog 39 #[.float .f64 v.k,.float .f64 v.k] W λe w'=>e=.returned (.bool true)/\w'=W):=λW=>by
  have:=GF v.k v.k W hv hv
  rw[beq_self_eq_true] at this
  exact this
 clear hv
 rcases Decidable.em (v.op=1) with h1|h1
 all_goals
  go_enter func18,ntmps18
  go_wp2_with (go_at_call 39;refine yai (HF.out _) ?_;rintro e W2 ⟨rfl,rfl⟩)
  go_ret
  exact⟨rfl,(ez 0 0 w _).trans (ez 0 0 _ _)⟩
theorem vy (w:World)(a1 a2 a3 b1 b2 b3:Option Addr)(n1 c1 n2 c2 n3 c3 d1 d2 d3:Nat)(ins:List Int)(vs:List Vl)(outs:List Int)(f:GS w a1 n1 a2 n2 a3 n3 ins vs outs)(g:GS w b1 n1 b2 n2 b3 n3 ins vs outs)(h1:n1<=1000000)(h2:n2<=2000)(h3:n3<=1000000):
  Calls prog 8 #[eR a1 n1 c1 a2 n2 c2 a3 n3 c3,eR b1 n1 d1 b2 n2 d2 b3 n3 d3] w λe w'=>e=.returned (.bool true)/\Kept 0 0 w w':=by
 have k0:=ez 0 0 w (eP a1 n1 c1 a2 n2 c2 a3 n3 c3)
 have k1:=ez 0 0 (w.alloc (eP a1 n1 c1 a2 n2 c2 a3 n3 c3)) (eP b1 n1 d1 b2 n2 d2 b3 n3 d3)
 have hB:=fE (w.alloc (eP a1 n1 c1 a2 n2 c2 a3 n3 c3)) (.slice b1 n1 d1) (.slice b2 n2 d2) (.slice b3 n3 d3)
 rw[show(w.alloc (eP a1 n1 c1 a2 n2 c2 a3 n3 c3)).heap.size=w.heap.size+1 by simp] at hB
 have HA:Hid _:=(fE w (.slice a1 n1 c1) (.slice a2 n2 c2) (.slice a3 n3 c3)).keep k1
 have HB:Hid _:=hB
 have HK:Hid _:=k0.trans k1
 have HF:Hid _:=f.keep (k0.trans k1)
 have HG:Hid _:=g.keep (k0.trans k1)
 have HL:Hid (vs.length=n2/\∀v∈vs,v.k<18446744073709551616):=⟨f.v.len,f.v.lt⟩
 clear f g k0 k1 hB
 obtain⟨_,p0,p1,p2⟩:=HA.out
 obtain⟨_,q0,q1,q2⟩:=HB.out
 go_enter func8,ntmps8
 go_wp2_with fail
 generalize (w.alloc (eP a1 n1 c1 a2 n2 c2 a3 n3 c3)).alloc (eP b1 n1 d1 b2 n2 d2 b3 n3 d3)=w1 at HA HB HK HF HG p0 p1 p2 q0 q1 q2 ⊢
 refine yai (qU w1 a1 b1 n1 c1 d1 ins HF.out.i HG.out.i h1) ?_
 rintro e w2 ⟨rfl,k2⟩
 clear p0 p1 p2 q0 q1 q2
 obtain⟨_,p0,p1,p2⟩:=HA.out.keep k2
 obtain⟨_,q0,q1,q2⟩:=HB.out.keep k2
 have HK2:Hid _:=k2
 clear k2
 go_wp2_with fail
 refine yai (qU w2 a3 b3 n3 c3 d3 outs (HF.out.keep HK2.out).o (HG.out.keep HK2.out).o h3) ?_
 rintro e w3 ⟨rfl,k3⟩
 clear p0 p1 p2 q0 q1 q2
 obtain⟨_,p0,p1,p2⟩:=HA.out.keep (HK2.out.trans k3)
 obtain⟨_,q0,q1,q2⟩:=HB.out.keep (HK2.out.trans k3)
 have HK3:Hid _:=HK2.out.trans k3
 clear k3 HK2
 go_wp2_with fail
 clear p0 p1 p2 q0 q1 q2
 go_loopw [5] (λi W=>∃k:Nat,k<=n2/\i=.int .i64 k/\Hid (Kept 0 0 w1 W)) (λi _=>n2-(intOf i).toNat)
 case atStart=>exact⟨0,Nat.zero_le _,rfl,HK3⟩
 case round=>
  obtain⟨k,hk,rfl,hK⟩:=hrel
  obtain⟨_,p0,p1,p2⟩:=HA.out.keep hK.out
  obtain⟨_,q0,q1,q2⟩:=HB.out.keep hK.out
  by_cases hlt:k<n2
  ·obtain⟨ga,oa,rfl,la,_,_,hat⟩:=(HF.out.keep hK.out).v.at_idx hlt
   obtain⟨gb,ob,rfl,lb,_,_,hbt⟩:=(HG.out.keep hK.out).v.at_idx hlt
   have HS:Hid _:=AY (w:=wr.drew) (vs.getD k Vl.zero) (HL.out.2 _ (by rw[yah,yal (by rw[HL.out.1];exact hlt)];exact List.getElem_mem _))
   generalize vs.getD k Vl.zero=v at hat hbt HS
   obtain⟨x0,x1,x2,x3,x4,x5⟩:=hat
   obtain⟨y0,y1,y2,y3,y4,y5⟩:=hbt
   go_wp2_with fail
   go_region_with (go_at_call 18;refine yai HS.out ?_;rintro e w5 ⟨rfl,k5⟩)
   all_goals
    go_wp2
    go_roundw
    case rel=>exact⟨k+1,by omega,by go_num,(Kept.drew hK.out).trans k5⟩
    case measure=>simp[intOf];omega
  ·obtain rfl:k=n2:=xaa
   go_wp2
   go_ret
   exact⟨rfl,HK.out.trans hK.out⟩
variable {bs:List Int}
def ul:Code->Nat
 |.region i _ _=>i
 |.seq a _=>ul a
 |.block _ c=>ul c
 |.scope c=>ul c
 |.loop c=>ul c
 |_=>0
def pT (n:Nat):Code->Option Code
 |.seq a b=>if ul b=n then some b else match pT n b with
  |some c=>some c
  |none=>pT n a
 |.block _ c=>pT n c
 |.scope c=>pT n c
 |.loop c=>pT n c
 |_=>none
def qV (n:Nat):Code->Option Code
 |.cond t a b=>match t with
  |.tmp j=>if j=n then some (.cond (.tmp j) a b) else none
  |_=>none
 |.seq a b=>match qV n b with
  |some c=>some c
  |none=>qV n a
 |.block _ c=>qV n c
 |.scope c=>qV n c
 |.loop c=>qV n c
 |_=>none
noncomputable def Ja:Code:=(Tryz.f11.body.bind (qV 90)).getD .skip
noncomputable def AZ (n:Nat):Code:=(Tryz.f11.body.bind (pT n)).getD .skip
theorem Dl {P:Program}{c:Code}{Q:Exit->Act->World->Prop}{a:Act}(h:c.wp P (Exit.then (λa w=>Q .normal a w) λ_ _ _=>False) a w):c.wp P Q a w:=by
 exact xjf
theorem Dy.putK {W:World}{i:Nat}{R:Nat}(f:Dy w0 W P a n cap i bs R Q (.slice a1 n1 c1) (.slice a2 vs.length c2) (.slice a3 n3 c3) ins vs outs)(k:Kept 0 0 W W1)(v:Vl)(hv:v.k<18446744073709551616)(hn:vs.length<=100000){K:Nat}(hK:K<W.heap.size/\K≠Q/\(Value.slice a2 vs.length c2).ownBlock≠some K):
  Calls prog 24 #[eR a1 n1 c1 a2 vs.length c2 a3 n3 c3,v.agg] W1 λe W9=>∃g' cap',e=.returned (eR a1 n1 c1 (some ⟨g',0,none⟩) (vs.length+1) cap' a3 n3 c3)/\RB W9 Q (.slice a1 n1 c1) (.slice a2 vs.length c2) (.slice a3 n3 c3)/\(Dy w0 (fe W9 Q (.slice a1 n1 c1) (.slice (some ⟨g',0,none⟩) (vs.length+1) cap') (.slice a3 n3 c3)) P a n cap i bs R Q (.slice a1 n1 c1) (.slice (some ⟨g',0,none⟩) (vs.length+1) cap') (.slice a3 n3 c3) ins (vs++[v]) outs/\g'≠K/\(∀o,(fe W9 Q (.slice a1 n1 c1) (.slice (some ⟨g',0,none⟩) (vs.length+1) cap') (.slice a3 n3 c3)).cell? ⟨K,o,none⟩=W.cell? ⟨K,o,none⟩)/\W.heap.size<=(fe W9 Q (.slice a1 n1 c1) (.slice (some ⟨g',0,none⟩) (vs.length+1) cap') (.slice a3 n3 c3)).heap.size):=by
 have f1:=f.keep k
 refine(oj W1 a1 a2 a3 n1 c1 c2 n3 c3 w0.heap.size vs v f1.dg.r2 f1.dg.sz xaa).mono ?_
 rintro e W9 ⟨g',cap',rfl,hown,hs⟩
 have c9:Chg (λb=>(Value.slice a2 vs.length c2).ownBlock=some b) W1 W9:=⟨hs.chg.os,hs.chg.tape,hs.chg.output,hs.chg.size,λb hb hn=>hs.chg.block b hb (by rintro (c|c);exact c;exact hn c)⟩
 have hg:(Value.slice a2 vs.length c2).ownBlock=some g'\/W1.heap.size<=g':=by
  exact xfe
 have hk:∀u∈vs++[v],u.k<18446744073709551616:=λu hu=>by
  exact xee
 have hb:=iO f1.bx c9 (λc=>(f.nr _ (.inr (.inl c))).2 rfl)
 have kk:Kept Q (Q+1) W9 (fe W9 Q (.slice a1 n1 c1) (.slice (some ⟨g',0,none⟩) (vs.length+1) cap') (.slice a3 n3 c3)):=fc W9 Q (.slice a1 n1 c1) (.slice (some ⟨g',0,none⟩) (vs.length+1) cap') (.slice a3 n3 c3)
 have h1:=k.size
 have h2:=c9.size
 refine⟨g',cap',rfl,hb,f1.vals c9 hown xac hg hk kk (l7 hb _ _ _),?_,λo=>?_,yan h1 (yan h2 kk.size)⟩
 ·rcases hg with c|c
  ·intro e;exact hK.2.2 (e ▸ c)
  ·omega
 ·rw[kk.cell (p:=⟨K,o,none⟩) (by show K<_;omega) (by show ¬(Q<=K/\K<Q+1);omega),c9.cell (p:=⟨K,o,none⟩) (by show K<_;omega) hK.2.2,k.cell (p:=⟨K,o,none⟩) hK.1 xaa]
theorem um {P:World->Prop}{W:World}(h:∀W',W'=W->P W'):P W:=h W rfl
theorem Jb {W:World}{x0 x1 x2 x3 x4 x5 m K:Nat}{ty:TypeId}(hK:W.heap.size=K)(h0:x0<18446744073709551616)(h1:x1<18446744073709551616)(h2:x2<18446744073709551616)(h3:x3<18446744073709551616)(h4:x4<18446744073709551616)(h5:x5<18446744073709551616)(q:Nat)(hq:q<6):∃x,x<18446744073709551616/\((W.alloc (.cells #[.float .f64 x0,.float .f64 x1,.float .f64 x2,.float .f64 x3,.float .f64 x4,.float .f64 x5] ty)).drewN m).cell? ⟨K,q,none⟩=some (.float .f64 x):=by
 subst hK
 match q,hq with
 |0,_=>exact⟨x0,h0,by simp⟩
 |1,_=>exact⟨x1,h1,by simp⟩
 |2,_=>exact⟨x2,h2,by simp⟩
 |3,_=>exact⟨x3,h3,by simp⟩
 |4,_=>exact⟨x4,h4,by simp⟩
 |5,_=>exact⟨x5,h5,by simp⟩
def C1 (w:World)(P n cap i Q:Nat)(a:Option Addr)(bs:List Int)(a1:Option Addr)(c1:Nat)(a3:Option Addr)(c3:Nat)(ins outs:List Int)(S:List Vl)(a2:Option Addr)(c2:Nat)(vs:List Vl)(W:World):Prop:=
 vs.map sv=S/\Dy w W P a n cap i bs w.heap.size Q (.slice a1 ins.length c1) (.slice a2 vs.length c2) (.slice a3 outs.length c3) ins vs outs/\(Value.slice a2 vs.length c2).ownBlock≠some (Q+1)/\Q+1<W.heap.size/\∀m:Nat,m<6->∃x,x<18446744073709551616/\W.cell? ⟨Q+1,m,none⟩=some (.float .f64 x)
theorem C1.next {W:World}{i:Nat}{v s0:Vl}{g' cap':Nat}(h:C1 w P n cap i Q a bs a1 c1 a3 c3 ins outs S a2 c2 vs W)(e:sv v=s0)
  (hf:Dy w W' P a n cap i bs w.heap.size Q (.slice a1 ins.length c1) (.slice (some ⟨g',0,none⟩) (vs.length+1) cap') (.slice a3 outs.length c3) ins (vs++[v]) outs/\g'≠Q+1/\(∀o,W'.cell? ⟨Q+1,o,none⟩=W.cell? ⟨Q+1,o,none⟩)/\W.heap.size<=W'.heap.size):C1 w P n cap i Q a bs a1 c1 a3 c3 ins outs (S++[s0]) (some ⟨g',0,none⟩) cap' (vs++[v]) W':=
 ⟨by rw[List.map_append,h.1,<-e];rfl,by rw[yak];exact hf.1,λq=>hf.2.1 (by simpa[Value.ownBlock] using q),yaj h.2.2.2.1 hf.2.2.2,λm hm=>by rw[hf.2.2.1];exact h.2.2.2.2 m hm⟩
def L2 (w:World)(P n cap Q:Nat)(a:Option Addr)(bs:List Int)(a1:Option Addr)(c1:Nat)(a3:Option Addr)(c3:Nat)(ins outs:List Int)(s:List Vl×Nat)(a2:Option Addr)(c2:Nat)(vs:List Vl)(W:World):Prop:=
 vs.map sv=s.1/\Dy w W P a n cap s.2 bs w.heap.size Q (.slice a1 ins.length c1) (.slice a2 vs.length c2) (.slice a3 outs.length c3) ins vs outs
theorem GG (vs:List Vl)(x:Nat):vd (vs.map sv) x=sv (vs.getD x Vl.zero):=by
 unfold vd
 rw[yah,yah,List.getElem?_map]
 cases vs[x]?<;>rfl
theorem Iz (W:World)(ty:TypeId){q:Nat}(hq:q<5):(W.alloc (.cells #[.int .i64 2,.int .i64 3,.int .i64 4,.int .i64 5,.int .i64 7] ty)).cell? ⟨W.heap.size,q,none⟩=some (.int .i64 (([2,3,4,5,7]:List Int).getD q 0)):=by
 rw[yau]
 match q,hq with
 |0,_|1,_|2,_|3,_|4,_=>rfl
theorem Dy.ox {W:World}{i R:Nat}{u1 u2 u3:Value}(f:Dy w0 W P a n cap i bs R Q u1 u2 u3 ins vs outs):∀o,Dy w0 (W.alloc o) P a n cap i bs R Q u1 u2 u3 ins vs outs:=λo=>f.keep (ez 0 0 W o)
theorem Dy.grow {W:World}{i R:Nat}(f:Dy w0 W P a n cap i bs R Q (.slice a1 n1 c1) (.slice a2 vs.length c2) (.slice a3 n3 c3) ins vs outs)(hn:vs.length<=100000)(hL:∀k,k<vs.length->1<=(vd vs k).len/\(vd vs k).len<=1000):
  Calls prog 28 #[eR a1 n1 c1 a2 vs.length c2 a3 n3 c3,.pointer (some ⟨P,0,none⟩)] W λe W9=>∃v g' cap',e=.returned (eR a1 n1 c1 (some ⟨g',0,none⟩) (vs.length+1) cap' a3 n3 c3)/\sv v=(gwM ins vs bs i).1/\RB W9 Q (.slice a1 n1 c1) (.slice a2 vs.length c2) (.slice a3 n3 c3)/\Dy w0 (fe W9 Q (.slice a1 n1 c1) (.slice (some ⟨g',0,none⟩) (vs.length+1) cap') (.slice a3 n3 c3)) P a n cap (gwM ins vs bs i).2 bs R Q (.slice a1 n1 c1) (.slice (some ⟨g',0,none⟩) (vs.length+1) cap') (.slice a3 n3 c3) ins (vs++[v]) outs:=by
 have hp:=f.p0
 have hq:=f.rq
 have h1:=f.k0.size
 refine(EX f.dg f.rd hp hn hL).mono ?_
 rintro e W9 ⟨v,g',cap',rfl,hsv,hd,hr,hc,hg⟩
 have hB:∀b,(Value.slice a2 vs.length c2).ownBlock=some b->w0.heap.size<=b/\b≠R/\b≠Q:=λb hb=>⟨(eG f.dg.r2 hb).1,f.nr b (.inr (.inl hb))⟩
 have hS:∀b,(b=P\/(Value.slice a2 vs.length c2).ownBlock=some b)->b≠R/\b≠Q:=by
  rintro b (c|c)
  ·omega
  ·exact(hB b c).2
 have hgn:g'≠R/\g'≠Q:=by
  rcases hg with c|c
  ·exact(hB g' c).2
  ·have:=f.rs.sz;have:=f.bx.sz;omega
 have hb:=iO f.bx hc (λc=>(hS _ c).2 rfl)
 have kk:Kept Q (Q+1) W9 (fe W9 Q (.slice a1 n1 c1) (.slice (some ⟨g',0,none⟩) (vs.length+1) cap') (.slice a3 n3 c3)):=fc _ _ _ _ _
 have h2:=hc.size
 have hn:∀b,(Value.slice a1 n1 c1).ownBlock=some b\/(Value.slice (some ⟨g',0,none⟩) (vs.length+1) cap').ownBlock=some b\/(Value.slice a3 n3 c3).ownBlock=some b->b≠R/\b≠Q:=by
  rintro b (h|h|h)
  ·exact f.nr b (.inl h)
  ·have e:b=g':=by simpa[Value.ownBlock] using h.symm
   subst e;exact hgn
  ·exact f.nr b (.inr (.inr h))
 have own:∀{u:Value} {xs:List Value} {m e s:Nat},W9.ownsRow w0.heap.size e s u m xs->(∀b,u.ownBlock=some b->b≠Q)->(fe W9 Q (.slice a1 n1 c1) (.slice (some ⟨g',0,none⟩) (vs.length+1) cap') (.slice a3 n3 c3)).ownsRow w0.heap.size e s u m xs:=λo h=>fK o kk λb hb=>by have:=h b hb;omega
 refine⟨v,g',cap',rfl,hsv,hb,hr.keep kk (.inl xaa),⟨own hd.r1 λb hb=>(hn b (.inl hb)).2,own hd.r2 λb hb=>(hn b (.inr (.inl hb))).2,own hd.r3 λb hb=>(hn b (.inr (.inr hb))).2,hd.a12,hd.a13,hd.a23,hd.k,yan hd.sz kk.size⟩,l7 hb _ _ _,(iO f.rs hc (λc=>(hS _ c).1 rfl)).kept kk xaa,hp,hq,hn,⟨kk.os.trans (hc.os.trans f.k0.os),kk.tape.trans (hc.tape.trans f.k0.tape),kk.output.trans (hc.output.trans f.k0.output),yan h1 (yan h2 kk.size),λb hb hnp=>?_⟩⟩
 rw[kk.block b xaa xaa,hc.block b xaa (by rintro (c|c);omega;have:=(hB b c).1;omega)]
 exact f.k0.block b hb hnp
theorem L2.of {v:Vl}(h0:vs.map sv=S)(hu:us=vs++[v]/\us.length=vs.length+1)
  (hf:Dy w W' P a n cap j bs w.heap.size Q (.slice a1 ins.length c1) (.slice a2 us.length c2) (.slice a3 outs.length c3) ins us outs):L2 w P n cap Q a bs a1 c1 a3 c3 ins outs (S++[sv v],j) a2 c2 us W':=
 ⟨by rw[hu.1,List.map_append,h0];rfl,hf⟩
theorem L2.of2 {v:Vl}(h0:vs.map sv=S)
  (hf:Dy w W' P a n cap j bs w.heap.size Q (.slice a1 ins.length c1) (.slice a2 (vs.length+1) c2) (.slice a3 outs.length c3) ins (vs++[v]) outs):L2 w P n cap Q a bs a1 c1 a3 c3 ins outs (S++[sv v],j) a2 c2 (vs++[v]) W':=by
 have hl:(vs++[v]).length=vs.length+1:=by simp
 rw[<-hl] at hf
 exact L2.of h0 ⟨rfl,hl⟩ hf
theorem Dy.putU {W:World}{i:Nat}{R:Nat}(f:Dy w0 W P a n cap i bs R Q (.slice a1 n1 c1) (.slice a2 vs.length c2) (.slice a3 n3 c3) ins vs outs)(k:Kept 0 0 W W1)(v:Vl)(hv:v.k<18446744073709551616)(hn:vs.length<=100000):
  Calls prog 24 #[eR a1 n1 c1 a2 vs.length c2 a3 n3 c3,v.agg] W1 λe W9=>∃us g' cap',e=.returned (eR a1 n1 c1 (some ⟨g',0,none⟩) us.length cap' a3 n3 c3)/\Hid (us=vs++[v]/\us.length=vs.length+1)/\RB W9 Q (.slice a1 n1 c1) (.slice a2 vs.length c2) (.slice a3 n3 c3)/\Dy w0 (fe W9 Q (.slice a1 n1 c1) (.slice (some ⟨g',0,none⟩) us.length cap') (.slice a3 n3 c3)) P a n cap i bs R Q (.slice a1 n1 c1) (.slice (some ⟨g',0,none⟩) us.length cap') (.slice a3 n3 c3) ins us outs:=by
 refine(f.put k v hv hn).mono ?_
 rintro e W9 ⟨g',cap',rfl,hb,hd⟩
 have hl:(vs++[v]).length=vs.length+1:=by simp
 exact⟨vs++[v],g',cap',by rw[hl],⟨rfl,hl⟩,hb,by rw[hl];exact hd⟩
def mH (w:World)(P n cap Q:Nat)(a:Option Addr)(bs:List Int)(a1:Option Addr)(c1:Nat)(a3:Option Addr)(c3:Nat)(ins outs:List Int)(s:List Vl×Nat)(base c d x:Nat)(m:Int)(W:World):Prop:=
 ∀{Post:Act->World->Prop} {b:Bool} {e f g h i j k l o p bb bc bd q r t u v y z A B C D E F G H I J K L M N O R S T U V X Y Z aa ab ad ae af ag ah ai aj ak al am an ao ap aq ar au av aw ax ay az aA aB aC aD aE aF aG aH aI aJ aK aL aM aN aO be bf bg bh bi bj bk bl bm bn bo bp bq br bt bu bv bw bx bz bA bB bC bD bE bF bG bH bI bJ bK bL bM bN bO bP bQ bR bS bT bU bV bW bX bY bZ b0 b1 b2 b3 b4 b5 b6 b7 b8 b9 ca cb cc cd ce cf cg ch ci cj ck cl cm cn co cp cq cr cs ct cu cv cw cx cy cz cA cB cC cD cE cF cG cH cI cJ cK cL aP aQ aR aS aT aU aV aW aX aY aZ a0 a4 a5 a6 a7 a8 a9 ba:Value},(b=true↔c%8=0)->(∀{cM cN cO cP cQ cR cS cT cU cV cW cX cY cZ c0 c4 c5 c6 c7 c8 c9 da db dc dd de df dg dh di dj dk dl dm dn dp dq dr ds dt du dv dw dx dy dz dA dB dC dD dE dF dG dH dI dJ dK dL dM dN dO dP dQ dR dS dT dU dV dW dX dY dZ d0 d1 d2 d3 d4 d5 d6 d7 d8 d9 ea eb ec ed ee ef eg eh ei ej ek el em en eo ep:Value} {W':World} {a2:Option Addr} {c2:Nat} {vs:List Vl},L2 w P n cap Q a bs a1 c1 a3 c3 ins outs s a2 c2 vs W'->Post ⟨#[.pointer (some ⟨P,0,none⟩),e,f,g,h,i,j,k,.pointer (some ⟨Q,0,none⟩),l,.int .i64 (base:Int),o,p,.int .i64 (c:Int),.int .i64 (d:Int),.int .i64 (x:Int),.int .i64 m,cM,cN,cO,q,r,t,u,v,y,z,A,B,C,D,E,F,G,H,I,J,K,L,M,N,O,R,S,T,U,V,X,Y,Z,aa,ab,ad,ae,af,ag,ah,ai,aj,ak,al,am,an,ao,ap,aq,ar,au,av,aw,ax,ay,az,aA,aB,aC,aD,aE,aF,aG,aH,aI,aJ,aK,aL,aM,aN,aO,cP,cQ,cR,cS,cT,cU,cV,cW,cX,cY,cZ,c0,c4,c5,c6,c7,c8,c9,da,db,dc,dd,de,df,dg,dh,di,dj,dk,dl,dm,dn,dp,dq,dr,ds,dt,du,dv,dw,dx,dy,dz,dA,dB,dC,dD,dE,dF,dG,dH,dI,dJ,dK,dL,dM,dN,dO,dP,dQ,dR,dS,dT,dU,dV,dW,dX,dY,dZ,d0,d1,d2,d3,d4,d5,d6,d7,d8,d9,ea,eb,ec,ed,ee,ef,eg,eh,ei,ej,ek,el,em,en,eo,ep,aP,aQ,aR,aS,aT,aU,aV,aW,aX,aY,aZ,a0,a4,a5,a6,a7,a8,a9,ba],[]⟩ W')->Code.wp prog Ja (Exit.then Post λ_ _ _=>False) ⟨#[.pointer (some ⟨P,0,none⟩),e,f,g,h,i,j,k,.pointer (some ⟨Q,0,none⟩),l,.int .i64 (base:Int),o,p,.int .i64 (c:Int),.int .i64 (d:Int),.int .i64 (x:Int),.int .i64 m,bb,bc,bd,q,r,t,u,v,y,z,A,B,C,D,E,F,G,H,I,J,K,L,M,N,O,R,S,T,U,V,X,Y,Z,aa,ab,ad,ae,af,ag,ah,ai,aj,ak,al,am,an,ao,ap,aq,ar,au,av,aw,ax,ay,az,aA,aB,aC,aD,aE,aF,aG,aH,aI,aJ,aK,aL,aM,aN,aO,be,bf,.bool b,bg,bh,bi,bj,bk,bl,bm,bn,bo,bp,bq,br,bt,bu,bv,bw,bx,bz,bA,bB,bC,bD,bE,bF,bG,bH,bI,bJ,bK,bL,bM,bN,bO,bP,bQ,bR,bS,bT,bU,bV,bW,bX,bY,bZ,b0,b1,b2,b3,b4,b5,b6,b7,b8,b9,ca,cb,cc,cd,ce,cf,cg,ch,ci,cj,ck,cl,cm,cn,co,cp,cq,cr,cs,ct,cu,cv,cw,cx,cy,cz,cA,cB,cC,cD,cE,cF,cG,cH,cI,cJ,cK,cL,aP,aQ,aR,aS,aT,aU,aV,aW,aX,aY,aZ,a0,a4,a5,a6,a7,a8,a9,ba],[]⟩ W
structure DgH (w:World)(P n cap Q:Nat)(a:Option Addr)(bs:List Int)(a1:Option Addr)(c1:Nat)(a3:Option Addr)(c3:Nat)(ins outs:List Int)(S:List Vl)(j base c d x:Nat)(m:Int)(a2:Option Addr)(c2:Nat)(vs:List Vl)(W:World):Prop where
 D:Dy w W P a n cap j bs w.heap.size Q (.slice a1 ins.length c1) (.slice a2 vs.length c2) (.slice a3 outs.length c3) ins vs outs
 hs:vs.map sv=S
 hx:x<vs.length
 hl:6<=vs.length/\vs.length<=1000
 hc:c<256/\d<256/\base<=100
 hm:(vs.getD x Vl.zero).len=m
 ln:LenS S
noncomputable def vz (n:Nat):Code:=(Tryz.f3.body.bind (pT n)).getD .skip
structure DdH (w W:World)(H:Nat)(B1:Option Addr)(n1 d1 G2 m d2:Nat)(B3:Option Addr)(n3 d3:Nat)(ins:List Int)(us:List Vl)(os:List Int):Prop where
 hb:G0 W H (.slice B1 n1 d1) (.slice (some ⟨G2,0,none⟩) m d2) (.slice B3 n3 d3)
 i:LsI W B1 n1 d1 ins
 v:LsV W (some ⟨G2,0,none⟩) m d2 us
 o:LsI W B3 n3 d3 os
 k:Kb us
 ok:okG ins us os=true
 ke:Kept 0 0 w W
theorem DdH.keep {W:World}{m:Nat}(h:DdH w W H B1 n1 d1 G2 m d2 B3 n3 d3 ins us os)(k:Kept 0 0 W W'):DdH w W' H B1 n1 d1 G2 m d2 B3 n3 d3 ins us os:=⟨h.hb.keep k,h.i.keep k,h.v.keep k,h.o.keep k,h.k,h.ok,h.ke.trans k⟩
theorem GH {W:World}{U:Nat}{m:Nat}{F:List Bool}{a d j n x D E M P Q S a1 a2 a3 bs bt:Value}(h:DdH w W H B1 n1 d1 G2 m d2 B3 n3 d3 ins us os)(hb:BR W U F)(hF:∀k,k<m->F.getD k false=true)(hl:F.length=m)(hd:fY us os=(us,os)):
  Code.wp prog (vz 26) (bodyPost prog Tryz.f3 λe w'=>e=.returned (.bool true)/\Kept 0 0 w w') ⟨#[f,a,b,d,g,j,l,n,p,.pointer (some ⟨H,0,none⟩),q,.slice (some ⟨U,0,none⟩) m m,r,s,t,u,x,y,z,A,B,C,D,E,G,I,J,K,L,M,N,O,P,Q,R,S,T,V,X,Y,Z,aa,ab,ad,ae,af,ag,ah,ai,aj,ak,al,am,an,ao,ap,aq,ar,au,av,aw,ax,ay,az,aA,aB,aC,aD,aE,aF,aG,aH,aI,aJ,aK,aL,aM,aN,aO,aP,aQ,aR,aS,aT,aU,aV,aW,aX,aY,aZ,a0,a1,a2,a3,a4,a5,a6,a7,a8,a9,ba,bb,bc,bd,be,bf,bg,bh,bi,bj,bk,bl,bm,bn,bo,bp,bq,br,bs,bt,bu,bv,bw,bx,bz,bA,bB,bC,bD,bE,bF,bG,bH,bI,bJ,bK,bL,bM,bN,bO,bP,bQ,bR,bS,bT,bU,bV,bW,bX,bY,bZ,b0,b1,b2,b3,b4,b5],[]⟩ W:=by
 obtain⟨⟨l1,l2,l3⟩,_,_,_,_⟩:=iQ h.ok
 rw[h.i.1] at l1
 rw[h.v.1] at l2
 rw[h.o.1] at l3
 have HR:Hid _:=rpD W B1 (some ⟨G2,0,none⟩) B3 n1 d1 m d2 n3 d3 ins us os h.i h.v h.o h.k h.ok
 rw[hd] at HR
 have HH:Hid _:=h
 have HB:Hid (BR W U F):=hb
 have HF:Hid (F.length=m/\∀k,k<m->F.getD k false=true):=⟨hl,hF⟩
 clear hb hF hl hd h
 conv=>arg 2;whnf
 go_wp2_with fail
 go_loop [15] (λi=>∃k:Nat,k<=m/\i=.int .i64 k) (λi=>m-(intOf i).toNat)
 case atStart=>exact⟨0,Nat.zero_le _,rfl⟩
 case round=>
  obtain⟨k,hk,rfl⟩:=hrel
  by_cases hlt:k<m
  ·have c:=BR.cell HB.out k (by rw[HF.out.1];exact hlt)
   rw[HF.out.2 k hlt] at c
   go_wp2
   go_round
   case rel=>exact⟨k+1,by omega,by go_num⟩
   case measure=>simp[intOf];omega
  ·obtain rfl:k=m:=xaa
   obtain⟨_,q0,q1,q2⟩:=HH.out.hb
   go_wp2_with fail
   refine yai HR.out ?_
   clear HR
   rintro e W2 ⟨C1,e1,G3,m3,e2,C3,e3,rfl,a,b,d,_,_,k2⟩
   obtain rfl:m3=k:=b.1.symm.trans HH.out.v.1
   have ka:=ez 0 0 W2 (eP C1 n1 e1 (some ⟨G3,0,none⟩) m3 e2 C3 n3 e3)
   have HS:Hid _:=vy (W2.alloc (eP C1 n1 e1 (some ⟨G3,0,none⟩) m3 e2 C3 n3 e3)) C1 (some ⟨G3,0,none⟩) C3 B1 (some ⟨G2,0,none⟩) B3 n1 e1 m3 e2 n3 e3 d1 d2 d3 ins us os (GS.keep ⟨a.is,b.vs HH.out.k,d.is⟩ ka) (GS.keep ⟨HH.out.i.is,HH.out.v.vs HH.out.k,HH.out.o.is⟩ (k2.trans ka)) xaa xaa xaa
   have HKK:Hid _:=HH.out.ke.trans (k2.trans ka)
   obtain⟨_,p0,p1,p2⟩:=HH.out.hb.keep k2
   clear q0 q1 q2 a b d k2 ka
   go_wp2_with (go_at_call 8;refine yai HS.out ?_;rintro e W4 ⟨rfl,k4⟩)
   go_ret
   exact⟨rfl,HKK.out.trans k4⟩
def usF (us:List Vl)(F:List Bool):Nat->List Bool
 |0=>F
 |k+1=>fJ (usF us F k) (eN (us.getD k Vl.zero))
theorem oQ (us:List Vl)(F:List Bool):∀k,(usF us F k).length=F.length
 |0=>rfl
 |k+1=>by rw[usF,iw,oQ us F k]
theorem pU {us:List Vl}{F:List Bool}{i:Nat}(hi:i<F.length):∀k,(F.getD i false=true\/∃j,j<k/\∃o∈eN (us.getD j Vl.zero),o.toNat=i)->(usF us F k).getD i false=true
 |0,h=>by
  rcases h with h|⟨j,hj,_⟩
  ·exact h
  ·omega
 |k+1,h=>by
  rw[usF,gV _ _ _ (by rw[oQ];exact hi),Bool.or_eq_true]
  rcases h with h|⟨j,hj,o,ho,e⟩
  ·exact .inl (pU hi k (.inl h))
  ·by_cases c:j=k
   ·subst c
    exact .inr (List.any_eq_true.2 ⟨o,ho,by simpa using e⟩)
   ·exact .inl (pU hi k (.inr ⟨j,by omega,o,ho,e⟩))
theorem Dm {W0 W:World}{U:Nat}{m:Nat}{F0:List Bool}{c d n x D E M P Q S a1 a2 a3 bs bt:Value}(h:DdH w W0 H B1 n1 d1 G2 m d2 B3 n3 d3 ins us os)(hK0:Kept 0 0 W0 W)(hU:W0.heap.size<=U)(hb:BR W U F0)(hl:F0.length=m)(hd:fY us os=(us,os))(hu:∀k,k<m->F0.getD k false=true\/∃j,j<m/\∃o∈eN (us.getD j Vl.zero),o.toNat=k):
  Code.wp prog (vz 16) (bodyPost prog Tryz.f3 λe w'=>e=.returned (.bool true)/\Kept 0 0 w w') ⟨#[b,c,d,f,l,n,p,r,s,.pointer (some ⟨H,0,none⟩),t,.slice (some ⟨U,0,none⟩) m m,u,x,y,z,D,E,G,I,J,L,M,N,O,P,Q,R,S,T,V,X,Y,Z,aa,ab,ad,ae,af,ag,ah,ai,aj,ak,al,am,an,ao,ap,aq,ar,au,av,aw,ax,ay,az,aA,aB,aC,aD,aE,aF,aG,aH,aI,aJ,aK,aL,aM,aN,aO,aP,aQ,aR,aS,aT,aU,aV,aW,aX,aY,aZ,a0,a1,a2,a3,a4,a5,a6,a7,a8,a9,ba,bb,bc,bd,be,bf,bg,bh,bi,bj,bk,bl,bm,bn,bo,bp,bq,br,bs,bt,bu,bv,bw,bx,bz,bA,bB,bC,bD,bE,bF,bG,bH,bI,bJ,bK,bL,bM,bN,bO,bP,bQ,bR,bS,bT,bU,bV,bW,bX,bY,bZ,b0,b1,b2,b3,b4,b5,b6,b7,b8,b9,ca,cb,cc],[]⟩ W:=by
 obtain⟨⟨_,l2,_⟩,_,hv,_,_⟩:=iQ h.ok
 rw[h.v.1] at l2 hv
 have HH:Hid _:=h
 have HB0:Hid (BR W U F0):=hb
 have HK0:Hid _:=hK0
 have HL:Hid (F0.length=m):=hl
 have HD:Hid (fY us os=(us,os)/\∀k,k<m->F0.getD k false=true\/∃j,j<m/\∃o∈eN (us.getD j Vl.zero),o.toNat=k):=⟨hd,hu⟩
 have HV:Hid _:=hv
 clear h hb hK0 hl hd hu hv
 obtain⟨_,q0,q1,q2⟩:=HH.out.hb.keep HK0.out
 conv=>arg 2;whnf
 go_wp2_with fail
 clear q0 q1 q2
 go_loopw [13] (λi W=>∃k:Nat,k<=m/\i=.int .i64 k/\Hid (BR W U (usF us F0 k))/\Hid (Kept 0 0 W0 W)) (λi _=>m-(intOf i).toNat)
 case atStart=>exact⟨0,Nat.zero_le _,rfl,HB0,HK0⟩
 case round=>
  obtain⟨k,hk,rfl,hB,hK⟩:=hrel
  clear HB0 HK0
  obtain⟨_,q0,q1,q2⟩:=HH.out.hb.keep hK.out
  by_cases hlt:k<m
  ·have HN:Hid (usF us F0 (k+1)=fJ (usF us F0 k) (eN (us.getD k Vl.zero))):=rfl
   have HFl:Hid ((usF us F0 k).length=m):=by show _=_;rw[oQ];exact HL.out
   obtain⟨hnl,⟨e0,_,_⟩|⟨g,e0,hva⟩⟩:=HH.out.v.keep hK.out
   ·cases e0
   cases e0
   have hat:=hva.at_ k hlt
   have hop:∀o∈eN (us.getD k Vl.zero),0<=o/\o<m:=λo ho=>by have:=jz (HV.out k hlt) o ho;omega
   have hrg:=rG (HV.out k hlt)
   have hUs:U<wr.heap.size:=hB.out.lt
   clear hva hnl
   generalize usF us F0 k=F at hB HN HFl
   generalize us.getD k Vl.zero=v at hat hop hrg HN
   obtain⟨op,len,A,B,C,K⟩:=v
   obtain⟨x0,x1,x2,x3,x4,x5⟩:=hat
   simp only at x0 x1 x2 x3 x4 x5 hrg
   rcases (by omega:op<2\/(2<=op/\op<=5)\/op=7\/op=8\/(5<op/\op≠7/\op≠8)) with hc|hc|hc|hc|hc
   ·have ho:eN ⟨op,len,A,B,C,K⟩=[]:=by unfold eN;rw[show cnt op=0 by unfold cnt;(repeat' split)<;>omega];rfl
    have t2:decide ((2:Int)<=op)=false:=by simp;omega
    have t7:(op==7)=false:=by simp;omega
    have t8:(op==8)=false:=by simp;omega
    have R1:Hid (∀o,BR (World.alloc wr o) U (fJ F (eN ⟨op,len,A,B,C,K⟩))):=λo=>by rw[ho];exact BR.keep hB.out (ez 0 0 _ _) yaa
    have R2:Hid (∀o,Kept 0 0 W0 (World.alloc wr o)):=λo=>Kept.trans hK.out (ez 0 0 _ _)
    exact xcp
   ·have ho:eN ⟨op,len,A,B,C,K⟩=[A,B]:=by unfold eN;rw[show cnt op=2 by unfold cnt;(repeat' split)<;>omega];rfl
    obtain⟨ma,rfl,hma⟩:∃q:Nat,A=q/\q<m:=⟨A.toNat,by have:=hop A (by rw[ho];simp);omega,by have:=hop A (by rw[ho];simp);omega⟩
    obtain⟨mb,rfl,hmb⟩:∃q:Nat,B=q/\q<m:=⟨B.toNat,by have:=hop B (by rw[ho];simp);omega,by have:=hop B (by rw[ho];simp);omega⟩
    have t2:decide ((2:Int)<=op)=true:=by simp;omega
    have t5:decide (op<=5)=true:=by simp;omega
    have t7:(op==7)=false:=by simp;omega
    have t8:(op==8)=false:=by simp;omega
    have c1:=BR.cell hB.out ma (by rw[HFl.out];exact hma)
    generalize List.getD _ ma false=y1 at c1
    have f1:=BR.free hB.out ma
    have c2:=BR.cell (BR.set hB.out ma true) mb (by simp only[List.length_set];rw[HFl.out];exact hmb)
    generalize List.getD _ mb false=y2 at c2
    have f2:=BR.free (BR.set hB.out ma true) mb
    have R1:Hid (∀o,BR (World.alloc ((wr.setCell ⟨U,ma,none⟩ (.bool true)).setCell ⟨U,mb,none⟩ (.bool true)) o) U (fJ F (eN ⟨op,len,(ma:Int),(mb:Int),C,K⟩))):=λo=>by rw[ho];exact BR.keep (BR.set (BR.set hB.out ma true) mb true) (ez 0 0 _ _) yaa
    exact xcr
   ·subst hc
    have ho:eN ⟨7,len,A,B,C,K⟩=[A,B]:=by unfold eN;rw[show cnt (7:Int)=2 by unfold cnt;decide];rfl
    obtain⟨ma,rfl,hma⟩:∃q:Nat,A=q/\q<m:=⟨A.toNat,by have:=hop A (by rw[ho];simp);omega,by have:=hop A (by rw[ho];simp);omega⟩
    obtain⟨mb,rfl,hmb⟩:∃q:Nat,B=q/\q<m:=⟨B.toNat,by have:=hop B (by rw[ho];simp);omega,by have:=hop B (by rw[ho];simp);omega⟩
    have c1:=BR.cell hB.out ma (by rw[HFl.out];exact hma)
    generalize List.getD _ ma false=y1 at c1
    have f1:=BR.free hB.out ma
    have c2:=BR.cell (BR.set hB.out ma true) mb (by simp only[List.length_set];rw[HFl.out];exact hmb)
    generalize List.getD _ mb false=y2 at c2
    have f2:=BR.free (BR.set hB.out ma true) mb
    have R1:Hid (∀o,BR (World.alloc ((wr.setCell ⟨U,ma,none⟩ (.bool true)).setCell ⟨U,mb,none⟩ (.bool true)) o) U (fJ F (eN ⟨7,len,(ma:Int),(mb:Int),C,K⟩))):=λo=>by rw[ho];exact BR.keep (BR.set (BR.set hB.out ma true) mb true) (ez 0 0 _ _) yaa
    exact xcr
   ·subst hc
    have ho:eN ⟨8,len,A,B,C,K⟩=[A,B,C]:=by unfold eN;rw[show cnt (8:Int)=3 by unfold cnt;decide];rfl
    obtain⟨ma,rfl,hma⟩:∃q:Nat,A=q/\q<m:=⟨A.toNat,by have:=hop A (by rw[ho];simp);omega,by have:=hop A (by rw[ho];simp);omega⟩
    obtain⟨mb,rfl,hmb⟩:∃q:Nat,B=q/\q<m:=⟨B.toNat,by have:=hop B (by rw[ho];simp);omega,by have:=hop B (by rw[ho];simp);omega⟩
    obtain⟨mc,rfl,hmc⟩:∃q:Nat,C=q/\q<m:=⟨C.toNat,by have:=hop C (by rw[ho];simp);omega,by have:=hop C (by rw[ho];simp);omega⟩
    have c1:=BR.cell hB.out ma (by rw[HFl.out];exact hma)
    generalize List.getD _ ma false=y1 at c1
    have f1:=BR.free hB.out ma
    have c2:=BR.cell (BR.set hB.out ma true) mb (by simp only[List.length_set];rw[HFl.out];exact hmb)
    generalize List.getD _ mb false=y2 at c2
    have f2:=BR.free (BR.set hB.out ma true) mb
    have c3:=BR.cell (BR.set (BR.set hB.out ma true) mb true) mc (by simp only[List.length_set];rw[HFl.out];exact hmc)
    generalize List.getD _ mc false=y3 at c3
    have f3:=BR.free (BR.set (BR.set hB.out ma true) mb true) mc
    have R1:Hid (∀o,BR (World.alloc (((wr.setCell ⟨U,ma,none⟩ (.bool true)).setCell ⟨U,mb,none⟩ (.bool true)).setCell ⟨U,mc,none⟩ (.bool true)) o) U (fJ F (eN ⟨8,len,(ma:Int),(mb:Int),(mc:Int),K⟩))):=λo=>by rw[ho];exact BR.keep (BR.set (BR.set (BR.set hB.out ma true) mb true) mc true) (ez 0 0 _ _) yaa
    have R2:Hid (∀o,Kept 0 0 W0 (World.alloc (((wr.setCell ⟨U,ma,none⟩ (.bool true)).setCell ⟨U,mb,none⟩ (.bool true)).setCell ⟨U,mc,none⟩ (.bool true)) o)):=λo=>Kept.trans (Kept.new (Kept.new (Kept.new hK.out (eL (lo:=U) (hi:=U+1) wr ⟨U,ma,none⟩ (.bool true) yac) hU) (eL (lo:=U) (hi:=U+1) (wr.setCell ⟨U,ma,none⟩ (.bool true)) ⟨U,mb,none⟩ (.bool true) yac) hU) (eL (lo:=U) (hi:=U+1) ((wr.setCell ⟨U,ma,none⟩ (.bool true)).setCell ⟨U,mb,none⟩ (.bool true)) ⟨U,mc,none⟩ (.bool true) yac) hU) (ez 0 0 _ _)
    exact xcp
   ·have ho:eN ⟨op,len,A,B,C,K⟩=[A]:=by unfold eN;rw[show cnt op=1 by unfold cnt;(repeat' split)<;>omega];rfl
    obtain⟨ma,rfl,hma⟩:∃q:Nat,A=q/\q<m:=⟨A.toNat,by have:=hop A (by rw[ho];simp);omega,by have:=hop A (by rw[ho];simp);omega⟩
    have t2:decide ((2:Int)<=op)=true:=by simp;omega
    have t5:decide (op<=5)=false:=by simp;omega
    have t7:(op==7)=false:=by simp;omega
    have t8:(op==8)=false:=by simp;omega
    have c1:=BR.cell hB.out ma (by rw[HFl.out];exact hma)
    generalize List.getD _ ma false=y1 at c1
    have f1:=BR.free hB.out ma
    have R1:Hid (∀o,BR (World.alloc (wr.setCell ⟨U,ma,none⟩ (.bool true)) o) U (fJ F (eN ⟨op,len,(ma:Int),B,C,K⟩))):=λo=>by rw[ho];exact BR.keep (BR.set hB.out ma true) (ez 0 0 _ _) yaa
    have R2:Hid (∀o,Kept 0 0 W0 (World.alloc (wr.setCell ⟨U,ma,none⟩ (.bool true)) o)):=λo=>Kept.trans (Kept.new hK.out (eL (lo:=U) (hi:=U+1) wr ⟨U,ma,none⟩ (.bool true) yac) hU) (ez 0 0 _ _)
    exact xcp
  ·obtain rfl:k=m:=xaa
   have hc:¬(k:Int)<(k:Int):=xaa
   go_upto_if 90 with fail
   refine wp_cond_false rfl (wp_exit ?_)
   exact(‹∀(a:Act) (w:World),Code.wp prog _ (bodyPost _ _ _) a w->_›) _ _ (GH (HH.out.keep hK.out) hB.out (λj hj=>pU (by rw[HL.out];exact hj) k (HD.out.2 j hj)) (by rw[oQ];exact HL.out) HD.out.1)
theorem Dn {W:World}{m:Nat}{c d n D E M P Q S a1 a2 a3 bs bt:Value}(h:DdH w W H B1 n1 d1 G2 m d2 B3 n3 d3 ins us os)(hd:fY us os=(us,os))(hu:∀k,k<m->Usd us os k):
  Code.wp prog (vz 11) (bodyPost prog Tryz.f3 λe w'=>e=.returned (.bool true)/\Kept 0 0 w w') ⟨#[b,c,d,f,l,n,p,s,t,.pointer (some ⟨H,0,none⟩),u,y,A,B,C,D,E,F,G,I,J,K,L,M,N,O,P,Q,R,S,T,U,V,Y,Z,aa,ab,ad,ae,af,ag,ah,ai,aj,ak,al,am,an,ao,ap,aq,ar,au,av,aw,ax,ay,az,aA,aB,aC,aD,aE,aF,aG,aH,aI,aJ,aK,aL,aM,aN,aO,aP,aQ,aR,aS,aT,aU,aV,aW,aX,aY,aZ,a0,a1,a2,a3,a4,a5,a6,a7,a8,a9,ba,bb,bc,bd,be,bf,bg,bh,bi,bj,bk,bl,bm,bn,bo,bp,bq,br,bs,bt,bu,bv,bw,bx,bz,bA,bB,bC,bD,bE,bF,bG,bH,bI,bJ,bK,bL,bM,bN,bO,bP,bQ,bR,bS,bT,bU,bV,bW,bX,bY,bZ,b0,b1,b2,b3,b4,b5,b6,b7,b8,b9,ca,cb],[]⟩ W:=by
 obtain⟨⟨_,l2,l3⟩,_,_,ho,_⟩:=iQ h.ok
 rw[h.v.1] at l2 ho
 rw[h.o.1] at l3
 have hm:=rH m W xaa
 have ka:=ez 0 0 W (.cells (madeCells #[.bool false] m) 4)
 have HB0:Hid (BR (W.alloc (.cells (madeCells #[.bool false] m) 4)) W.heap.size (fJ (List.replicate m false) (os.take 0))):=BR.made W m
 have HK0:Hid _:=ka
 have HH:Hid _:=h
 have HO:Hid _:=ho
 have HL:Hid (us.length=m/\os.length=n3):=⟨h.v.1,h.o.1⟩
 have HD:Hid (fY us os=(us,os)/\∀k,k<m->Usd us os k):=⟨hd,hu⟩
 obtain⟨_,q0,q1,q2⟩:=h.hb
 obtain⟨_,p0,p1,p2⟩:=h.hb.keep ka
 clear h hd hu ho ka
 conv=>arg 2;whnf
 go_wp2_with fail
 clear q0 q1 q2 p0 p1 p2 hm
 generalize W.alloc (.cells (madeCells #[.bool false] m) 4)=W1 at HB0 HK0 ⊢
 go_loopw [12] (λi X=>∃k:Nat,k<=n3/\i=.int .i64 k/\Hid (BR X W.heap.size (fJ (List.replicate m false) (os.take k)))/\Hid (Kept 0 0 W X)) (λi _=>n3-(intOf i).toNat)
 case atStart=>exact⟨0,Nat.zero_le _,rfl,HB0,HK0⟩
 case round=>
  obtain⟨k,hk,rfl,hB,hK⟩:=hrel
  clear HB0 HK0
  obtain⟨_,q0,q1,q2⟩:=HH.out.hb.keep hK.out
  by_cases hlt:k<n3
  ·have hob:=HO.out (os.getD k 0) (iR (by rw[HL.out.2];exact hlt))
   obtain⟨x,ex,hx⟩:∃x:Nat,os.getD k 0=x/\x<m:=⟨(os.getD k 0).toNat,by omega,by omega⟩
   obtain⟨g,off,q,rfl,eq,_,_,c1⟩:=(HH.out.o.keep hK.out).is.at_idx (o:=k) xaa xaa
   obtain rfl:k=q:=xaa
   rw[Int.toNat_natCast,ex] at c1
   have c2:=BR.cell hB.out x (by rw[iw];simpa using hx)
   have f2:=BR.free hB.out x
   have R1:Hid _:=BR.set hB.out x true
   rw[show x=(os.getD k 0).toNat by omega,<-ki _ _ (by rw[HL.out.2];exact hlt),<-show x=(os.getD k 0).toNat by omega] at R1
   have R2:Hid _:=Kept.new hK.out (eL (lo:=W.heap.size) (hi:=W.heap.size+1) wr ⟨W.heap.size,x,none⟩ (.bool true) yac) yad
   generalize (fJ (List.replicate m false) (os.take k)).getD x false=z at c2
   clear hB hK hob ex eq
   exact xhx
  ·obtain rfl:k=n3:=xaa
   have HB:Hid (BR wr W.heap.size (fJ (List.replicate m false) os)):=by
    have:=hB.out
    rw[yao (by rw[HL.out.2];omega)] at this
    exact this
   have hc:¬(k:Int)<(k:Int):=xaa
   go_upto_if 76 with fail
   refine wp_cond_false rfl (wp_exit ?_)
   refine(‹∀(a:Act) (w:World),Code.wp prog _ (bodyPost _ _ _) a w->_›) _ _ (Dm HH.out hK.out yad HB.out (by rw[iw];simp) HD.out.1 λj hj=>?_)
   rcases HD.out.2 j hj with⟨o,ho,e⟩|⟨i,hi,r⟩
   ·exact .inl (by rw[gV _ _ _ (by simpa using hj),Bool.or_eq_true];exact .inr (List.any_eq_true.2 ⟨o,ho,by simpa using e⟩))
   ·exact .inr ⟨i,by rw[<-HL.out.1];exact hi,r⟩
variable {bs:List Int}
theorem IA {W:World}(h:DgH w P n cap Q a bs a1 c1 a3 c3 ins outs S j base c d x m a2 c2 vs W)(hc:c%8=0):mH w P n cap Q a bs a1 c1 a3 c3 ins outs (S++[eI 6 m x 0 0],j) base c d x m W:=by
 unfold mH
 intros
 rename_i hbb hP
 have HP:Hid _:=@hP
 have HD:Hid _:=h.D
 have HSV:Hid _:=h.hs
 have hl:=h.hl
 have hcd:=h.hc
 obtain⟨_,t0,t1,t2,tf0,tf1,tf2⟩:=HD.out.bx
 obtain rfl:=hbb.2 hc
 clear hP hbb
 conv=>arg 2;whnf
 have hc':(c:Int)%8=0:=xaa
 have HF:Hid (∀W7,Kept 0 0 W W7->_):=λW7 k7=>HD.out.putU k7 (eI 6 m (x:Int) 0 0) (Nat.zero_lt_succ _) xaa
 clear h
 go_upto_region 24 with fail
 exact xbx
variable {bs:List Int}
theorem IB {W:World}(h:DgH w P n cap Q a bs a1 c1 a3 c3 ins outs S j base c d x m a2 c2 vs W)(hc:c%8=1):mH w P n cap Q a bs a1 c1 a3 c3 ins outs (S++[eI 6 m x 0 0]++[eI 6 m S.length 0 0],j) base c d x m W:=by
 unfold mH
 intros
 rename_i hbb hP
 have HP:Hid _:=@hP
 have HD:Hid _:=h.D
 have HSV:Hid _:=h.hs
 have hl:=h.hl
 have hcd:=h.hc
 obtain⟨_,t0,t1,t2,tf0,tf1,tf2⟩:=HD.out.bx
 obtain rfl:=Bool.eq_false_iff.2 λq=>absurd (hbb.1 q) xaa
 clear hP hbb
 conv=>arg 2;whnf
 have hc':(c:Int)%8=1:=xaa
 have HF:Hid (∀W7,Kept 0 0 W W7->_):=λW7 k7=>HD.out.putU k7 (eI 6 m (x:Int) 0 0) (Nat.zero_lt_succ _) xaa
 clear h
 go_upto_region 26 with fail
 go_region_with (first
  |(go_at_call 24;refine yai (HF.out _ ((eC _).trans k7)) ?_;rintro e W9 ⟨us,g',cap',rfl,hus,hrb,hfin⟩;obtain⟨_,r0,r1,r2,rf0,rf1,rf2⟩:=hrb)
  |(go_at_call 26;refine yai (gj _ _ _ _ _ _) ?_;rintro e W7 ⟨rfl,k7⟩;obtain⟨_,q0,q1,q2,_,_,_⟩:=(HD.out.keep ((eC _).trans k7)).bx))
 all_goals
  have HU:Hid _:=hus.out
  have hul:us.length<=1001:=by have:=hus.out.2;omega
  clear HD HF t0 t1 t2 tf0 tf1 tf2 hus
  unfold fe at hfin
  have HD:Hid _:=hfin
  clear hfin r0 r1 r2 rf0 rf1 rf2
  go_wp2_with fail
  refine um (P:=Code.wp _ _ _ _) ?_
  intro W8 hW8
  rw[<-hW8] at HD
  clear hW8
  obtain⟨_,t0,t1,t2,tf0,tf1,tf2⟩:=HD.out.bx
  have HF:Hid (∀W7,Kept 0 0 W8 W7->_):=λW7 k7=>HD.out.putU k7 (eI 6 m ((us.length:Int)-1) 0 0) (Nat.zero_lt_succ _) xaa
  have HLast:Hid (∀W:World,_):=λW=>ir W a1 (some ⟨g',0,none⟩) a3 ins.length c1 us.length cap' outs.length c3 xaa
  have HSS:Hid (us.map sv=S++[eI 6 m x 0 0]/\(S.length:Int)=(us.length:Int)-1):=⟨by rw[HU.out.1,List.map_append,HSV.out];rfl,by have:=HU.out.2;have:=congrArg List.length HSV.out;rw[List.length_map] at this;omega⟩
  clear HU
  go_region_with (first
   |(go_at_call 24;refine yai (HF.out _ ((eC _).trans (kl.trans k7))) ?_;rintro e W9 ⟨us,g',cap',rfl,hus,hrb,hfin⟩;obtain⟨_,r0,r1,r2,rf0,rf1,rf2⟩:=hrb)
   |(go_at_call 27;refine yai (HLast.out _) ?_;rintro e W6 ⟨rfl,kl⟩;obtain⟨_,p0,p1,p2,_,_,_⟩:=(HD.out.keep ((eC _).trans kl)).bx)
   |(go_at_call 26;refine yai (gj _ _ _ _ _ _) ?_;rintro e W7 ⟨rfl,k7⟩;obtain⟨_,q0,q1,q2,_,_,_⟩:=(HD.out.keep ((eC _).trans (kl.trans k7))).bx))
  all_goals
   rw[HSS.out.2] at HP
   exact HP.out (L2.of HSS.out.1 hus.out hfin)
variable {bs:List Int}
theorem IC {W:World}(h:DgH w P n cap Q a bs a1 c1 a3 c3 ins outs S j base c d x m a2 c2 vs W)(hc:c%8=2):mH w P n cap Q a bs a1 c1 a3 c3 ins outs (S++[vd S x],j) base c d x m W:=by
 unfold mH
 intros
 rename_i hbb hP
 have HP:Hid _:=@hP
 have HD:Hid _:=h.D
 have HSV:Hid _:=h.hs
 have hl:=h.hl
 have hcd:=h.hc
 obtain⟨_,t0,t1,t2,tf0,tf1,tf2⟩:=HD.out.bx
 obtain rfl:=Bool.eq_false_iff.2 λq=>absurd (hbb.1 q) xaa
 clear hP hbb
 conv=>arg 2;whnf
 have hx:=h.hx
 obtain⟨gR,cp,eu,hg1,hg2,hat⟩:=gC HD.out.dg.r2 rfl hx
 have eu':a2=some ⟨gR,0,none⟩:=by injection eu
 subst eu'
 have hx':(x:Int)<(vs.length:Int):=xaa
 clear eu hg1 hg2
 have hc':(c:Int)%8=2:=xaa
 have HF:Hid (∀W7,Kept 0 0 W W7->_):=λW7 k7=>HD.out.putU k7 (vs.getD x Vl.zero) (HD.out.dg.k _ (by rw[yah,yal hx];exact List.getElem_mem hx)) xaa
 have hbx:=(HD.out.keep (ez 0 0 W (.cells #[.int .i64 (vs.getD x Vl.zero).op,.int .i64 (vs.getD x Vl.zero).len,.int .i64 (vs.getD x Vl.zero).a,.int .i64 (vs.getD x Vl.zero).b,.int .i64 (vs.getD x Vl.zero).c,.float .f64 (vs.getD x Vl.zero).k] 35))).bx
 have e:vd S x=sv (vs.getD x Vl.zero):=by rw[<-h.hs,GG]
 rw[e] at HP
 clear e h
 obtain⟨y0,y1,y2,y3,y4,y5⟩:=hat
 generalize vs.getD x Vl.zero=v at*
 obtain⟨_,q0,q1,q2,_,_,_⟩:=hbx
 go_wp2_with (go_at_call 24;refine yai (HF.out _ (ez 0 0 _ _)) ?_;rintro e W9 ⟨us,g',cap',rfl,hus,hrb,hfin⟩;obtain⟨_,r0,r1,r2,rf0,rf1,rf2⟩:=hrb)
 all_goals exact HP.out (L2.of HSV.out hus.out hfin)
variable {bs:List Int}
theorem ID {W:World}(h:DgH w P n cap Q a bs a1 c1 a3 c3 ins outs S j base c d x m a2 c2 vs W)(hc:c%8=3\/c%8=5)(hm:m=1):mH w P n cap Q a bs a1 c1 a3 c3 ins outs (S++[eI ([2,3,4,5,7].getD (c/8%5) 0) 1 x ((base+d/8%6:Nat):Int) 0],j) base c d x m W:=by
 unfold mH
 intros
 rename_i hbb hP
 have HP:Hid _:=@hP
 have HD:Hid _:=h.D
 have HSV:Hid _:=h.hs
 have hl:=h.hl
 have hcd:=h.hc
 obtain⟨_,t0,t1,t2,tf0,tf1,tf2⟩:=HD.out.bx
 obtain rfl:=Bool.eq_false_iff.2 λq=>absurd (hbb.1 q) xaa
 clear hP hbb
 conv=>arg 2;whnf
 subst hm
 obtain⟨q,hq,eq1,eq2⟩:∃q:Nat,q<5/\(c:Int)/8%5=(q:Int)/\c/8%5=q:=⟨c/8%5,by omega,by omega,rfl⟩
 rw[eq2,show((base+d/8%6:Nat):Int)=(base:Int)+(d:Int)/8%6 by omega] at HP
 have hq':(q:Int)<5:=xaa
 have hl2:(base:Int)<=100:=xaa
 have hd2:(d:Int)<256:=xaa
 have hcb:(c:Int)<256:=xaa
 have y6:=Iz W 3 hq
 generalize ([2,3,4,5,7]:List Int).getD q 0=o at HP y6
 have D7:=HD.out.keep (ez 0 0 W (.cells #[.int .i64 2,.int .i64 3,.int .i64 4,.int .i64 5,.int .i64 7] 3))
 clear HD eq2 h
 have HD:Hid _:=D7
 clear D7
 have n0:¬(c:Int)%8=0:=xaa
 have n1:¬(c:Int)%8=1:=xaa
 have n2:¬(c:Int)%8=2:=xaa
 have n6:(c:Int)%8<6:=xaa
 have h2:(c:Int)%2=1:=xaa
 have HF:Hid (∀W7,Kept 0 0 _ W7->_):=λW7 k7=>HD.out.putU k7 (eI o 1 x ((base:Int)+(d:Int)/8%6) 0) (Nat.zero_lt_succ _) xaa
 go_upto_region 35 with fail
 exact xbu
variable {bs:List Int}
theorem IF {W:World}(h:DgH w P n cap Q a bs a1 c1 a3 c3 ins outs S j base c d x m a2 c2 vs W)(hc:c%8=4)(hm:m=1):mH w P n cap Q a bs a1 c1 a3 c3 ins outs (S++[eI ([2,3,4,5,7].getD (c/8%5) 0) 1 ((base+d/8%6:Nat):Int) x 0],j) base c d x m W:=by
 unfold mH
 intros
 rename_i hbb hP
 have HP:Hid _:=@hP
 have HD:Hid _:=h.D
 have HSV:Hid _:=h.hs
 have hl:=h.hl
 have hcd:=h.hc
 obtain⟨_,t0,t1,t2,tf0,tf1,tf2⟩:=HD.out.bx
 obtain rfl:=Bool.eq_false_iff.2 λq=>absurd (hbb.1 q) xaa
 clear hP hbb
 conv=>arg 2;whnf
 subst hm
 obtain⟨q,hq,eq1,eq2⟩:∃q:Nat,q<5/\(c:Int)/8%5=(q:Int)/\c/8%5=q:=⟨c/8%5,by omega,by omega,rfl⟩
 rw[eq2,show((base+d/8%6:Nat):Int)=(base:Int)+(d:Int)/8%6 by omega] at HP
 have hq':(q:Int)<5:=xaa
 have hl2:(base:Int)<=100:=xaa
 have hd2:(d:Int)<256:=xaa
 have hcb:(c:Int)<256:=xaa
 have y6:=Iz W 3 hq
 generalize ([2,3,4,5,7]:List Int).getD q 0=o at HP y6
 have D7:=HD.out.keep (ez 0 0 W (.cells #[.int .i64 2,.int .i64 3,.int .i64 4,.int .i64 5,.int .i64 7] 3))
 clear HD eq2 h
 have HD:Hid _:=D7
 clear D7
 have n0:¬(c:Int)%8=0:=xaa
 have n1:¬(c:Int)%8=1:=xaa
 have n2:¬(c:Int)%8=2:=xaa
 have n6:(c:Int)%8<6:=xaa
 have h2:¬(c:Int)%2=1:=xaa
 have HF:Hid (∀W7,Kept 0 0 _ W7->_):=λW7 k7=>HD.out.putU k7 (eI o 1 ((base:Int)+(d:Int)/8%6) x 0) (Nat.zero_lt_succ _) xaa
 go_upto_region 36 with fail
 exact xbu
variable {bs:List Int}
theorem E4 {W:World}(h:DgH w P n cap Q a bs a1 c1 a3 c3 ins outs S j base c d x m a2 c2 vs W)(hc:c%8=7\/((c%8=3\/c%8=4\/c%8=5)/\¬m=1)):mH w P n cap Q a bs a1 c1 a3 c3 ins outs (S++[(gwM ins S bs j).1],(gwM ins S bs j).2) base c d x m W:=by
 unfold mH
 intros
 rename_i hbb hP
 have HP:Hid _:=@hP
 have HD:Hid _:=h.D
 have HSV:Hid _:=h.hs
 have hl:=h.hl
 have hcd:=h.hc
 obtain⟨_,t0,t1,t2,tf0,tf1,tf2⟩:=HD.out.bx
 obtain rfl:=Bool.eq_false_iff.2 λq=>absurd (hbb.1 q) xaa
 clear hP hbb
 conv=>arg 2;whnf
 have HGw:Hid _:=HD.out.grow xaa (h.ln.of h.hs)
 rw[<-h.hs,AO,h.hs] at HP
 have n0:¬(c:Int)%8=0:=xaa
 have n1:¬(c:Int)%8=1:=xaa
 have n2:¬(c:Int)%8=2:=xaa
 have n6:¬(c:Int)%8=6:=xaa
 clear h
 rcases hc with hc|⟨hc,hm⟩
 ·have n7:¬(c:Int)%8<6:=xaa
  rcases Decidable.em (m=1) with rfl|hm
  all_goals
   go_wp2_with (go_at_call 28;refine yai HGw.out ?_;rintro e W9 ⟨v,g',cap',rfl,hsv,hrb,hfin⟩;obtain⟨_,r0,r1,r2,rf0,rf1,rf2⟩:=hrb;rw[<-hsv] at HP;clear hsv)
   exact HP.out (L2.of2 HSV.out hfin)
 ·go_wp2_with (go_at_call 28;refine yai HGw.out ?_;rintro e W9 ⟨v,g',cap',rfl,hsv,hrb,hfin⟩;obtain⟨_,r0,r1,r2,rf0,rf1,rf2⟩:=hrb;rw[<-hsv] at HP;clear hsv)
  exact HP.out (L2.of2 HSV.out hfin)
variable {bs:List Int}
theorem IG {W:World}(h:DgH w P n cap Q a bs a1 c1 a3 c3 ins outs S j base c d x m a2 c2 vs W)(hc:c%8=6):mH w P n cap Q a bs a1 c1 a3 c3 ins outs (S++[eI 10 2 ((base+d/8%6:Nat):Int) 0 0]++[eI 12 2 ((base+d/4%6:Nat):Int) 0 ((d%2:Nat):Int)],j) base c d x m W:=by
 unfold mH
 intros
 rename_i hbb hP
 have HP:Hid _:=@hP
 have HD:Hid _:=h.D
 have HSV:Hid _:=h.hs
 have hl:=h.hl
 have hcd:=h.hc
 obtain⟨_,t0,t1,t2,tf0,tf1,tf2⟩:=HD.out.bx
 obtain rfl:=Bool.eq_false_iff.2 λq=>absurd (hbb.1 q) xaa
 clear hP hbb
 conv=>arg 2;whnf
 obtain⟨u,hu,eu⟩:∃u:Nat,d/8%6=u/\u<6:=⟨_,rfl,by omega⟩
 obtain⟨v,hv,ev⟩:∃v:Nat,d/4%6=v/\v<6:=⟨_,rfl,by omega⟩
 obtain⟨t,ht,et⟩:∃t:Nat,d%2=t/\t<2:=⟨_,rfl,by omega⟩
 rw[hu,hv,ht,Int.natCast_add,Int.natCast_add] at HP
 have hc':(c:Int)%8=6:=xaa
 have n6:¬(c:Int)%8<6:=xaa
 have E2:Hid (IntKind.i64.wrap ((d:Int)/4)=(d:Int)/4/\IntKind.i64.wrap ((base:Int)+(v:Int))=(base:Int)+(v:Int)/\((d:Int)/4).tmod 6=(v:Int)/\(d:Int).tmod 2=(t:Int)):=⟨by rw[IntKind.wrap_i64];omega,by rw[IntKind.wrap_i64];omega,(Int.tmod_eq_emod_of_nonneg xaa).trans xaa,(Int.tmod_eq_emod_of_nonneg xaa).trans xaa⟩
 have e1:IntKind.i64.wrap ((d:Int)/8)=(d:Int)/8:=by rw[IntKind.wrap_i64];omega
 have e3:IntKind.i64.wrap ((base:Int)+(u:Int))=(base:Int)+(u:Int):=by rw[IntKind.wrap_i64];omega
 have e5:((d:Int)/8).tmod 6=(u:Int):=(Int.tmod_eq_emod_of_nonneg xaa).trans xaa
 have HF:Hid (∀W7,Kept 0 0 _ W7->_):=λW7 k7=>HD.out.putU k7 (eI 10 2 ((base:Int)+(u:Int)) 0 0) (Nat.zero_lt_succ _) xaa
 clear h hu hv ht eu ev et hcd
 rcases Decidable.em (m=1) with rfl|hm
 all_goals
  go_upto_region 38 with fail
  go_cut [] from 88 to 182 (λwx=>∃(us:List Vl) (g' cap':Nat),Hid ((us=vs++[eI 10 2 ((base:Int)+(u:Int)) 0 0]/\us.length=vs.length+1)/\Dy w wx P a n cap j bs w.heap.size Q (.slice a1 ins.length c1) (.slice (some ⟨g',0,none⟩) us.length cap') (.slice a3 outs.length c3) ins us outs))
  case first=>
   go_region_with (first
    |(go_at_call 24;refine yai (HF.out _ ((eC _).trans k7)) ?_;rintro e W9 ⟨us,g',cap',rfl,hus,hrb,hfin⟩;obtain⟨_,r0,r1,r2,rf0,rf1,rf2⟩:=hrb)
    |(go_at_call 26;refine yai (gj _ _ _ _ _ _) ?_;rintro e W7 ⟨rfl,k7⟩;obtain⟨_,q0,q1,q2,_,_,_⟩:=(HD.out.keep ((eC _).trans k7)).bx))
   all_goals
    go_wp2_with fail
    go_meet
    exact⟨us,g',cap',hus.out,hfin⟩
  case rest=>
   clear e1 e3 e5
   obtain⟨us,g',cap',hU⟩:=hcut
   have HU:Hid _:=hU.out.1
   have HD2:Hid _:=hU.out.2
   have hul:us.length<=1001:=by have:=hU.out.1.2;omega
   clear HD HF t0 t1 t2 tf0 tf1 tf2 hU
   have HD:Hid _:=HD2.out
   clear HD2
   obtain⟨_,t0,t1,t2,tf0,tf1,tf2⟩:=HD.out.bx
   have HF:Hid (∀W7,Kept 0 0 _ W7->_):=λW7 k7=>HD.out.putU k7 (eI 12 2 ((base:Int)+(v:Int)) 0 (t:Int)) (Nat.zero_lt_succ _) xaa
   have HSS:Hid (us.map sv=S++[eI 10 2 ((base:Int)+(u:Int)) 0 0]):=by show _=_;rw[HU.out.1,List.map_append,HSV.out];rfl
   clear HU
   obtain⟨e1,e2,e3,e4⟩:=E2.out
   go_wp2_with fail
   go_region_with (first
    |(go_at_call 24;refine yai (HF.out _ ((eC _).trans k7)) ?_;rintro e W9 ⟨us,g',cap',rfl,hus,hrb,hfin⟩;obtain⟨_,r0,r1,r2,rf0,rf1,rf2⟩:=hrb)
    |(go_at_call 26;refine yai (gj _ _ _ _ _ _) ?_;rintro e W7 ⟨rfl,k7⟩;obtain⟨_,q0,q1,q2,_,_,_⟩:=(HD.out.keep ((eC _).trans k7)).bx))
   all_goals exact HP.out (L2.of HSS.out hus.out hfin)
variable {bs:List Int}
theorem II {W:World}{s:List Vl×Nat}(h:DgH w P n cap Q a bs a1 c1 a3 c3 ins outs s.1 j base c d x m a2 c2 vs W)(ec:nv bs s.2=c)(ed:nv bs (ni bs s.2)=d)(ej:ni bs (ni bs s.2)=j)(ex:d%s.1.length=x)(em:(vd s.1 x).len=m):mH w P n cap Q a bs a1 c1 a3 c3 ins outs (stM ins base bs s) base c d x m W:=by
 unfold stM
 simp only[ec,ed,ej,ex,em]
 rcases (by omega:c%8=0\/c%8=1\/c%8=2\/(c%8=3\/c%8=4\/c%8=5)\/c%8=6\/c%8=7) with hc|hc|hc|hc|hc|hc
 ·rw[if_pos hc];exact IA h hc
 ·rw[if_neg xaa,if_pos hc];exact IB h hc
 ·rw[if_neg xaa,if_neg xaa,if_pos hc];exact IC h hc
 ·by_cases hm:m=1
  ·rw[if_neg xaa,if_neg xaa,if_neg xaa,if_pos ⟨hm,by omega⟩]
   by_cases h2:c%2=1
   ·rw[if_pos h2];exact ID h xaa hm
   ·rw[if_neg h2];exact IF h xaa hm
  ·rw[if_neg xaa,if_neg xaa,if_neg xaa,if_neg xaa,if_neg xaa];exact E4 h (.inr ⟨hc,hm⟩)
 ·rw[if_neg xaa,if_neg xaa,if_neg xaa,if_neg xaa,if_pos hc];exact IG h hc
 ·rw[if_neg xaa,if_neg xaa,if_neg xaa,if_neg xaa,if_neg xaa];exact E4 h (.inl hc)
theorem WkO {P:Prop}(h:P:=by
  have HW:Hid _:=HD.out.ox
  obtain⟨_,z0,z1,z2,zf0,zf1,zf2⟩:=HD.out.bx
  have hol:outs.length+1<=1000:=by have:=HFn.out;omega
  go_upto_region 42 with (at_builtin;refine fk _ rfl _ _ rfl w.heap.size (.slice a3 outs.length c3) outs rfl (HW.out _).dg.r3 _ ((vs.length:Int)-1) rfl xac (yan hol xab) (HW.out _).dg.sz ?_;intro g9 cap9 n9 w9 hn9 hown9 hc9 hat9;obtain⟨hb9,hd4⟩:=(HW.out _).outs_ hc9 hown9 hn9 hat9;have HD4:Hid _:=hd4;clear hd4;replace hn9:Hid _:=hn9;obtain⟨_,x0,x1,x2,xf0,xf1,xf2⟩:=hb9)
  generalize w9.setCell ⟨Q,2,none⟩ (.slice (some ⟨g9,0,none⟩) n9 cap9)=W10 at HD4 ⊢
  clear HD HW hown9 hc9 hat9 x0 x1 x2 xf0 xf1 xf2 z0 z1 z2 zf0 zf1 zf2 hn9
  have HW:Hid _:=HD4.out.ox
  obtain⟨_,z0,z1,z2,zf0,zf1,zf2⟩:=HD4.out.bx
  have hol2:(outs++[(vs.length:Int)-1]).length+1<=1000000:=by rw[yak,List.length_singleton];omega
  go_upto_region 43 with (at_builtin;refine fk _ rfl _ _ rfl w.heap.size (.slice (some ⟨g9,0,none⟩) n9 cap9) (outs++[(vs.length:Int)-1]) rfl (HW.out _).dg.r3 _ ((vs.length:Int)-2) rfl xac hol2 (HW.out _).dg.sz ?_;intro g8 cap8 n8 w8 hn8 hown8 hc8 hat8;obtain⟨hb8,hd5⟩:=(HW.out _).outs_ hc8 hown8 hn8 hat8;have HD5:Hid _:=hd5;clear hd5;replace hn8:Hid _:=hn8;obtain⟨_,x0,x1,x2,xf0,xf1,xf2⟩:=hb8)
  generalize w8.setCell ⟨Q,2,none⟩ (.slice (some ⟨g8,0,none⟩) n8 cap8)=W11 at HD5 ⊢
  clear HD4 HW hown8 hc8 hat8 x0 x1 x2 xf0 xf1 xf2 z0 z1 z2 zf0 zf1 zf2 hn8
  have HFin:Hid _:=HD5.out.finS rfl HSV.out
  obtain⟨_,z0,z1,z2,_,_,_⟩:=HD5.out.bx
  obtain⟨_,v0,v1,v2,vf0,vf1,vf2⟩:=HD5.out.rs
  go_wp2_with fail
  obtain⟨p0,p1,p2⟩:=eY W11 w.heap.size _ _ _ v0 v1 v2 (.slice a1 ins.length c1) (.slice a2 vs.length c2) (.slice (some ⟨g8,0,none⟩) n8 cap8)
  exact yay (v:=eR a1 ins.length c1 a2 vs.length c2 (some ⟨g8,0,none⟩) n8 cap8) (by simp[results,results11,go_sem,p0,p1,p2]) rfl (by rw[HE.out];exact HFin.out)):P:=h
theorem Do (hb:∀i,nv bs i<256){W:World}{s0:List Vl×Nat}{T:List Int×List Vl×List Int×Nat}{c d j o v D E H M S bt cm cv:Value}(h:L2 w P n cap Q a bs a1 c1 a3 c3 ins outs s0 a2 c2 vs W)(hi:AW ins)(hl0:LenS s0.1)(hp0:base+6<=s0.1.length/\s0.1.length<=100)(ho:outs.length<=4)(hE:T=(ins,(lpM ins base bs s0 14).1,outs++[((lpM ins base bs s0 14).1.length:Int)-1]++[((lpM ins base bs s0 14).1.length:Int)-2],(lpM ins base bs s0 14).2)):
  Code.wp prog (AZ 16) (bodyPost prog Tryz.f11 (DgT w P a n cap bs T)) ⟨#[.pointer (some ⟨P,0,none⟩),b,.pointer (some ⟨w.heap.size,0,none⟩),c,d,f,g,j,.pointer (some ⟨Q,0,none⟩),l,.int .i64 (base:Int),o,p,q,r,u,v,y,z,A,B,C,D,E,F,G,H,I,J,K,L,M,N,O,R,S,U,V,X,Y,Z,aa,ab,ad,ae,af,ag,ah,ai,aj,ak,al,am,an,ao,ap,aq,ar,au,av,aw,ax,ay,az,aA,aB,aC,aD,aE,aF,aG,aH,aI,aJ,aK,aL,aM,aN,aO,aP,aQ,aR,aS,aT,aU,aV,aW,aX,aY,aZ,a0,a4,a5,a6,a7,a9,ba,bb,bc,bd,be,bf,bg,bh,bi,bj,bk,bl,bm,bn,bo,bp,bq,br,bt,bu,bv,bw,bz,bA,bB,bC,bD,bE,bF,bG,bH,bI,bJ,bK,bL,bM,bN,bO,bP,bQ,bR,bS,bT,bU,bV,bW,bX,bY,bZ,b0,b1,b2,b3,b4,b5,b6,b7,b8,b9,ca,cb,cc,cd,ce,cf,cg,ch,ci,cj,ck,cl,cm,cn,co,cq,cr,cs,ct,cu,cv,cw,cx,cy,cz,cA,cB,cC,cD,cE,cF,cG,cH,cI,cJ,cK,cL,cM,cN,cO,cP,cQ,cR,cS,cT,cU,cV],[]⟩ W:=by
 have HL:Hid _:=h
 have HE:Hid _:=hE
 have HI:Hid _:=hi
 have HL0:Hid _:=hl0
 have HP0:Hid _:=hp0
 have HFn:Hid (outs.length<=4):=ho
 clear h hE hi hl0 hp0 ho
 conv=>arg 2;whnf
 go_wp2_with fail
 go_loopw [12] (λt W=>∃(k c2:Nat) (a2:Option Addr) (vs:List Vl),k<=14/\t=.int .i64 (k:Int)/\Hid (L2 w P n cap Q a bs a1 c1 a3 c3 ins outs (lpM ins base bs s0 k) a2 c2 vs W)) (λt _=>14-(intOf t).toNat)
 case atStart=>exact⟨0,c2,a2,vs,Nat.zero_le _,rfl,HL.out⟩
 case round=>
  clear HL
  obtain⟨k,c2,a2,vs,hk,rfl,hL⟩:=hrel
  have h100:(lpM ins base bs s0 k).1.length<=s0.1.length+2*k/\s0.1.length<=(lpM ins base bs s0 k).1.length:=vx _ _ _ _ _
  have HQ1:Hid ((lpM ins base bs s0 k).2<bs.length->lpM ins base bs s0 (k+1)=stM ins base bs (lpM ins base bs s0 k)):=λh=>by rw[lpM,if_pos h]
  have HQ2:Hid (k=14\/¬(lpM ins base bs s0 k).2<bs.length->lpM ins base bs s0 14=lpM ins base bs s0 k):=λh=>Dj _ _ _ _ hk h
  have hP0:=HP0.out
  have HLn:Hid (LenS (lpM ins base bs s0 k).1):=sH HI.out HL0.out xaa k
  generalize lpM ins base bs s0 k=s at*
  have hb0:=hb s.2
  have hb1:=hb (ni bs s.2)
  have HVL:Hid (vs.length=s.1.length):=by rw[<-hL.out.1,List.length_map];rfl
  have hvz:6<=vs.length/\vs.length<=1000:=by have:=HVL.out;omega
  have hbase:base<=100:=xaa
  clear h100 hP0
  have HD:Hid _:=hL.out.2
  have HSV:Hid _:=hL.out.1
  clear hL
  by_cases hgo:k<14/\s.2<bs.length
  ·have HQ:Hid _:=HQ1.out hgo.2
   have t14:(k:Int)<14:=xaa
   have tl:0<(bs.length:Int)-(s.2:Int):=xaa
   clear HQ1 HQ2
   go_upto_region 21 with (first
    |(go_at_call 25;refine yai (wm HD.out.rd) ?_;rintro e W5 ⟨rfl,k5⟩;have D5:=HD.out.keep k5;clear HD;have HD:Hid _:=D5;clear D5 k5)
    |(go_at_call 19;refine yai HD.out.next ?_;rintro e W6 ⟨rfl,D6⟩;clear HD;have HD:Hid _:=D6;clear D6))
   obtain⟨_,t0,t1,t2,tf0,tf1,tf2⟩:=HD.out.bx
   obtain⟨x,hx,ex,ex2⟩:∃x,x<vs.length/\(nv bs (ni bs s.2):Int)%(vs.length:Int)=(x:Int)/\nv bs (ni bs s.2)%s.1.length=x:=⟨nv bs (ni bs s.2)%vs.length,Nat.mod_lt _ xaa,by rw[Int.natCast_emod],by rw[HVL.out]⟩
   have HX2:Hid _:=ex2
   clear ex2
   obtain⟨gR,cp,eu,hg1,hg2,hat⟩:=gC HD.out.dg.r2 rfl hx
   have y1:=hat.c1
   have eu':a2=some ⟨gR,0,none⟩:=by injection eu
   subst eu'
   have hx':(x:Int)<(vs.length:Int):=xaa
   have hv0:(0:Int)<(vs.length:Int):=xaa
   clear eu hg1 hg2 hat
   obtain⟨m,hm1,hm2⟩:∃m,(vs.getD x Vl.zero).len=m/\(vd s.1 x).len=m:=⟨_,rfl,by rw[<-HSV.out,wD,vd]⟩
   rw[hm1] at y1
   have HM:Hid _:=And.intro hm1 hm2
   clear hm1 hm2
   go_upto_if 90 with fail
   rw[ex]
   refine Dl (II (s:=s) ⟨HD.out,HSV.out,hx,hvz,⟨hb0,hb1,hbase⟩,HM.out.1,HLn.out⟩ rfl rfl rfl HX2.out HM.out.2 ?_ ?_)
   ·simp;omega
   intros
   rename_i W8 a8 c8 vs8 hL8
   have HL8:Hid _:=hL8
   clear hL8
   rw[<-HQ.out] at HL8
   clear HQ HD y1 t0 t1 t2 tf0 tf1 tf2 ex
   go_wp2_with fail
   go_roundw
   case rel=>exact⟨k+1,c8,a8,vs8,by omega,by go_num,HL8.out⟩
   case measure=>simp[intOf];omega
  ·have HQ:Hid _:=HQ2.out xaa
   rw[HQ.out] at HE
   clear HQ HQ1 HQ2 HLn
   rw[<-HVL.out] at HE
   rcases (by omega:(k:Int)=14\/((k:Int)<14/\¬0<(bs.length:Int)-(s.2:Int))) with t14|⟨t14,tl⟩
   ·have t15:¬(k:Int)<14:=xaa
    clear t14
    go_upto_region 41 with fail
    exact WkO
   ·go_upto_region 41 with (go_at_call 25;refine yai (wm HD.out.rd) ?_;rintro e W5 ⟨rfl,k5⟩;have D5:=HD.out.keep k5;clear HD;have HD:Hid _:=D5;clear D5 k5)
    exact WkO
variable {bs:List Int}
theorem A0 (hb:∀i,nv bs i<256){i1:Nat}{T:List Int×List Vl×List Int×Nat}{c h j v D E H M S bt cm cp cv cW:Value}(hR1:RdF W1 P a n cap i1 bs)(hK1:Kept P (P+1) w W1)(hB1:RB W1 w.heap.size gL gL gL)(hP:P<w.heap.size)(hE:T=rsT bs i1):
  Code.wp prog (AZ 8) (bodyPost prog Tryz.f11 (DgT w P a n cap bs T)) ⟨#[.pointer (some ⟨P,0,none⟩),b,.pointer (some ⟨w.heap.size,0,none⟩),c,f,g,h,j,l,p,q,r,s,u,v,z,A,B,C,D,E,F,G,H,I,J,K,L,M,N,O,R,S,U,V,X,Y,Z,aa,ab,ad,ae,af,ag,ah,ai,aj,ak,al,am,an,ao,ap,aq,ar,au,av,aw,ax,ay,az,aA,aB,aC,aD,aE,aF,aG,aH,aI,aJ,aK,aL,aM,aN,aO,aP,aQ,aR,aS,aT,aU,aV,aW,aX,aY,aZ,a0,a4,a5,a6,a7,a8,a9,ba,bb,bc,bd,be,bf,bg,bh,bi,bj,bk,bl,bm,bn,bo,bp,bq,br,bt,bu,bv,bw,bz,bA,bB,bC,bD,bE,bF,bG,bH,bI,bJ,bK,bL,bM,bN,bO,bP,bQ,bR,bS,bT,bU,bV,bW,bX,bY,bZ,b0,b1,b2,b3,b4,b5,b6,b7,b8,b9,ca,cb,cc,cd,ce,cf,cg,ch,ci,cj,ck,cl,cm,cn,co,cp,cq,cr,cs,ct,cu,cv,cw,cx,cy,cz,cA,cB,cC,cD,cE,cF,cG,cH,cI,cJ,cK,cL,cM,cN,cO,cP,cQ,cR,cS,cT,cU,cV,cW],[]⟩ W1:=by
 have HR1:Hid _:=hR1
 have HK1:Hid _:=hK1
 have HB1:Hid _:=hB1
 have HE:Hid _:=hE
 clear hR1 hK1 hB1 hE
 conv=>arg 2;whnf
 have HG:Hid _:=AV HR1.out
 have HSm:Hid _:=ui bs i1
 have HLx:Hid _:=AX bs i1
 unfold rsT rsL at HE
 generalize (dgI bs i1).1=X1 at HG HSm HE HLx
 generalize (dgG bs i1).1=X2 at HG HSm HE HLx
 generalize dgO bs i1=XO at HG HSm HE
 go_upto_region 10 with (go_at_call 23;refine yai HG.out ?_;rintro e W3 ⟨a1,c1,a2,c2,a3,c3,vs,rfl,hsv,d,rd,k3⟩;have HD:Hid _:=Dy.fresh HB1.out hP HK1.out d rd k3;have HSV:Hid _:=hsv;clear hsv d rd k3)
 clear HG HR1 HK1 HB1
 have f1:=@mP prog
 have f3:=tP
 go_upto_region 11 with fail
 clear f1 f3
 have HD4:Hid (∀o m,Dy w (((W3.alloc (.cells #[.slice a1 X1.length c1,.slice a2 vs.length c2,.slice a3 XO.1.length c3] 26)).alloc o).drewN m) P a n cap XO.2 bs w.heap.size W3.heap.size (.slice a1 X1.length c1) (.slice a2 vs.length c2) (.slice a3 XO.1.length c3) X1 vs XO.1):=λo m=>HD.out.keep ((ez 0 0 _ o).trans (eK 0 0 _ m))
 refine um (P:=Code.wp _ _ _ _) ?_
 intro W4 hW4
 have HD5:Hid (Dy w W4 P a n cap XO.2 bs w.heap.size W3.heap.size (.slice a1 X1.length c1) (.slice a2 vs.length c2) (.slice a3 XO.1.length c3) X1 vs XO.1):=by rw[hW4];exact HD4.out _ _
 have HT5:Hid (∀m:Nat,m<6->∃x,x<18446744073709551616/\W4.cell? ⟨W3.heap.size+1,m,none⟩=some (.float .f64 x)):=by rw[hW4];exact Jb xac xab xab xab xab (kO _ _ _ _) (kO _ _ _ _)
 have HK5:Hid (W3.heap.size+1<W4.heap.size):=by rw[hW4];show _<_;simp
 have HN5:Hid ((Value.slice a2 vs.length c2).ownBlock≠some (W3.heap.size+1)):=λe=>by have:=(eG HD.out.dg.r2 e).2;simp at this
 clear hW4 HD4 HD
 have el:vs.length=X2.length:=by rw[<-HSV.out,List.length_map]
 have HC:Hid (C1 w P n cap XO.2 W3.heap.size a bs a1 c1 a3 c3 X1 XO.1 (csM X2 0) a2 c2 vs W4):=⟨by rw[HSV.out,csM];simp,HD5.out,HN5.out,HK5.out,HT5.out⟩
 obtain⟨_,z0,b,z2,_,_,_⟩:=HD5.out.bx
 clear HN5 HT5 HK5
 generalize W3.heap.size=Q at*
 go_upto_region 12 with fail
 rw[el]
 clear z0 b z2 el
 go_wp2_with fail
 go_loopw [11] (λt W=>∃(k c2:Nat) (a2:Option Addr) (vs:List Vl),k<=6/\t=.int .i64 (k:Int)/\Hid (C1 w P n cap XO.2 Q a bs a1 c1 a3 c3 X1 XO.1 (csM X2 k) a2 c2 vs W)) (λt _=>6-(intOf t).toNat)
 case atStart=>exact⟨0,c2,a2,vs,Nat.zero_le _,rfl,HC.out⟩
 case round=>
  clear HC HD5 HSV
  obtain⟨k,c2,a2,vs,hk,rfl,hC⟩:=hrel
  by_cases hlt:k<6
  ·obtain⟨hsv,hD,hN,hK,hT⟩:=hC.out
   obtain⟨x,hx,y⟩:=hT k hlt
   have hvl:vs.length<=100000:=by have h9:=congrArg List.length hsv;have:=HSm.out.2.1;simp[csM] at h9;omega
   have HF:Hid (∀W6,Kept 0 0 wr W6->_):=λW6 k6=>hD.putK k6 ⟨1,1,0,0,0,x⟩ hx hvl ⟨hK,by omega,hN⟩
   obtain⟨_,z0,b,z2,zf0,zf1,zf2⟩:=hD.bx
   have h6:(k:Int)<6:=xaa
   clear hsv hD hN hT hK
   go_upto_region 15 with fail
   go_region_with (go_at_call 24;refine yai (HF.out _ (eC _)) ?_;rintro e W9 ⟨g',cap',rfl,hrb,hfin⟩;obtain⟨_,r0,r1,r2,rf0,rf1,rf2⟩:=hrb)
   all_goals
    have hC9:=hC.out.next (s0:=⟨1,1,0,0,0,0⟩) rfl hfin
    rw[<-uk] at hC9
    have HC:Hid _:=hC9
    clear hC9
    clear hfin
    go_wp2_with fail
    go_roundw
    case rel=>exact⟨k+1,cap',_,_,by omega,by go_num,HC.out⟩
    case measure=>simp[intOf];omega
  ·have hk2:k=6:=xaa
   obtain⟨hsv,hD,_,_,_⟩:=hC.out
   rw[hk2] at hsv ⊢
   rw[show((6:Nat):Int)=6 from rfl]
   clear hC hk2 hk hlt k
   have HP0:Hid (X2.length+6<=(csM X2 6,XO.2).1.length/\(csM X2 6,XO.2).1.length<=100):=by
    have:=HSm.out.2.1
    show _/\_
    simp only[csM,yak,List.length_replicate]
    omega
   have h6:¬(6:Int)<6:=xab
   go_upto_if 54 with fail
   refine wp_cond_false rfl (wp_exit ?_)
   exact(‹∀(a:Act) (w:World),Code.wp prog _ (bodyPost _ _ _) a w->_›) _ _ (Do hb (s0:=(csM X2 6,XO.2)) ⟨hsv,hD⟩ HLx.out.2 (wH HLx.out.1 6) HP0.out HSm.out.2.2 HE.out)
