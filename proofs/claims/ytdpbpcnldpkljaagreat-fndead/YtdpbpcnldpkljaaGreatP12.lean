import Derived.Test.YtdpbpcnldpkljaaGreatP08
import Derived.Test.YtdpbpcnldpkljaaGreatP09
namespace Go.Proofs.Z
open Tryz
set_option maxRecDepth 1000000
set_option maxHeartbeats 0
open Go.RowKit Flt
attribute [local go_sem] eD eB eA
variable {q base g e size n p d:Nat} {w w' W':World} {a b:Option Addr} {b0 b1 v b2:Value} {xs:List Value}
theorem eO {W:World}(h:W.ownsRow base e size v n xs)(k:Kept 0 0 W W'):W'.ownsRow base e size v n xs:=by
 refine⟨h.1,h.2.imp id ?_⟩
 rintro⟨g,cap,cur,e1,b1,b2,b3⟩
 refine⟨g,cap,cur,e1,b1,?_,b3⟩
 have hg:g<W.heap.size:=by
  exact xbf
 rw[k.block g hg xaa]
 exact b2
theorem Hs {xs:List Int}(hx:xs.length=n)(hc:∀k,k<n->w.cell? ⟨g,k,none⟩=some (.int .i64 (xs.getD k 0))):
  ∀j u,(xs.map (Value.int .i64))[j]? =some u->w.cell? ((⟨g,0,none⟩:Addr).add j)=some u:=λj u hu=>by
 have hj:j<n:=by
  rcases Nat.lt_or_ge j n with c|c
  ·exact c
  ·rw[List.getElem?_eq_none yaf] at hu;cases hu
 have h1:=hc j hj
 have e:(⟨g,0,none⟩:Addr).add j=⟨g,j,none⟩:=by
  unfold Addr.add
  split
  ·rename_i h0;rw[h0]
  ·simp
 rw[e,h1]
 rw[List.getElem?_map,yal (by omega:j<xs.length)] at hu
 simp only[Option.map_some] at hu
 rw[<-hu,yah,yal (by omega:j<xs.length)];rfl
theorem Ht {vs:List Vl}(hx:vs.length=n)(hc:∀k,k<n->At w g (k*6) (vs.getD k Vl.zero)):
  ∀j u,(fp vs)[j]? =some u->w.cell? ((⟨g,0,none⟩:Addr).add j)=some u:=λj u hu=>by
 have hj:j<n*6:=by
  rcases Nat.lt_or_ge j (n*6) with c|c
  ·exact c
  ·rw[List.getElem?_eq_none (by rw[mR];omega)] at hu;cases hu
 have e:(⟨g,0,none⟩:Addr).add j=⟨g,j,none⟩:=by
  unfold Addr.add
  split
  ·rename_i h0;rw[h0]
  ·simp
 have ej:j=j/6*6+j%6:=xaa
 have hk:j/6<n:=xaa
 rw[ej,oG vs (j/6) (j%6) xaa xaa] at hu
 rw[e,ej]
 obtain⟨c0,c1,c2,c3,c4,c5⟩:=hc (j/6) hk
 have:j%6=0\/j%6=1\/j%6=2\/j%6=3\/j%6=4\/j%6=5:=xaa
 rcases this with h|h|h|h|h|h
 all_goals
  rw[h] at hu ⊢
  simp[Vl.cells] at hu
  subst hu
 ·rw[Nat.add_zero];exact c0
 ·exact c1
 ·exact c2
 ·exact c3
 ·exact c4
 ·exact c5
theorem j5 {row:Option Nat}(h:w.grownBy w' row)(hr:∀k,row=some k->base<=k){w0:World}(k:Kept 0 0 w0 w)(hb:w0.heap.size<=base):Kept 0 0 w0 w':=
 ⟨h.os.trans k.os,h.tape.trans k.tape,h.output.trans k.output,yan k.size h.size,λi hi _=>by
  rw[h.block i (yaj hi k.size) (λc=>by have:=hr i c.symm;omega)]
  exact k.block i hi xaa⟩
theorem Fp:∀(vs:List Vl),∀u∈fp vs,u.oneCell'=true
 |[],_,h=>by cases h
 |v::r,u,h=>by
  rcases List.mem_append.1 h with c|c
  ·exact uK v u c
  ·exact Fp r u c
theorem s7 {W:World}(h:W.ownsRow base e size v n xs)(hv:v≠.slice none 0 0):∃g cap,v=.slice (some ⟨g,0,none⟩) n cap/\base<=g/\g<W.heap.size:=by
 rcases h.2 with⟨e,_⟩|⟨g,cap,cur,e,b1,b2,_⟩
 ·exact absurd e hv
 ·refine⟨g,cap,e,b1,?_⟩
  exact xbf
theorem Fq (w:World)(g n c:Nat)(xs:List Int)(hn2:n<=1000000)(h:IE w g xs)(hx:xs.length=n):
  Calls prog 67 #[.slice (some ⟨g,0,none⟩) n c] w λe w'=>∃G cap,e=.returned (.slice (some ⟨G,0,none⟩) n cap)/\w.heap.size<=G/\G<w'.heap.size/\w'.ownsRow w.heap.size 3 1 (.slice (some ⟨G,0,none⟩) n cap) n (xs.map (Value.int .i64))/\Kept 0 0 w w':=by
 obtain⟨i0,hi,hz0,hz1,hz2⟩:=info_parts oi
 have heq:(binOp .eql 23 (.slice (some ⟨g,0,none⟩) n c) (.slice none 0 0)).run prog w=.ok (.bool false) w:=by
  simp only[binOp]
  simp[run_equal_slice_nil w 23 3 (some ⟨g,0,none⟩) n c underlying23]
 have ka:=ez 0 0 w (.cells #[] 3)
 have hc:∀k,k<n->w.cell? ⟨g,k,none⟩=some (.int .i64 (xs.getD k 0)):=λk hk=>h.cell k xaa
 have HN:Hid _:=Hs (w:=w.alloc (.cells #[] 3)) (g:=g) hx (λk hk=>jN ka h.lt (hc k hk))
 have HO:Hid _:=World.ownsRow_made (base:=w.heap.size) (e:=3) (size:=1) w #[] 0 yad (by unfold maxLen;omega) rfl
 have HKA:Hid _:=ka
 have HX:Hid (xs.length=n):=hx
 clear hc hx ka h
 go_enter func67,ntmps67
 go_wp2_with (first|(at_builtin;refine wpList_append_own _ rfl _ _ 23 rfl w.heap.size 3 i0 (.int .i64 0) 1 8 underlying23 hi hz0 hz1 hz2 rfl xab _ _ _ rfl HO.out ⟨g,0,none⟩ n c (xs.map (Value.int .i64)) rfl ?c0 HN.out ?c2 ?c3 ?c4 ?c5 ?_))
 case c0=>exact HX.out
 case c2=>intro u hu;rfl
 case c3=>unfold maxLen;omega
 case c4=>omega
 exact xek
theorem Fr (w:World)(g n c:Nat)(vs:List Vl)(hn2:n<=1000000)(h:VA w g n vs):
  Calls prog 68 #[.slice (some ⟨g,0,none⟩) n c] w λe w'=>∃G cap,e=.returned (.slice (some ⟨G,0,none⟩) n cap)/\w.heap.size<=G/\G<w'.heap.size/\w'.ownsRow w.heap.size 35 6 (.slice (some ⟨G,0,none⟩) n cap) n (fp vs)/\Kept 0 0 w w':=by
 obtain⟨i0,hi,hz0,hz1,hz2⟩:=info_parts oh
 have heq:(binOp .eql 24 (.slice (some ⟨g,0,none⟩) n c) (.slice none 0 0)).run prog w=.ok (.bool false) w:=by
  simp only[binOp]
  simp[run_equal_slice_nil w 24 35 (some ⟨g,0,none⟩) n c underlying24]
 have ka:=ez 0 0 w (.cells #[] 35)
 have HN:Hid _:=Ht (w:=w.alloc (.cells #[] 35)) (g:=g) h.len (λk hk=>(h.at_ k hk).keep h.lt ka yaa)
 have HO:Hid _:=World.ownsRow_made (base:=w.heap.size) (e:=35) (size:=6) w #[] 0 yad (by unfold maxLen;omega) rfl
 have HKA:Hid _:=ka
 have HX:Hid (vs.length=n):=h.len
 clear ka h
 go_enter func68,ntmps68
 go_wp2_with (first|(at_builtin;refine wpList_append_own _ rfl _ _ 24 rfl w.heap.size 35 i0 (ib 0 0 0 0 0 0) 6 48 underlying24 hi hz0 hz1 hz2 rfl xab _ _ _ rfl HO.out ⟨g,0,none⟩ n c (fp vs) rfl ?c0 HN.out ?c2 ?c3 ?c4 ?c5 ?_))
 case c0=>rw[mR,HX.out]
 case c2=>exact Fp vs
 case c3=>unfold maxLen;omega
 case c4=>omega
 exact xek
theorem iR {xs:List Int}(h:q<xs.length):xs.getD q 0∈xs:=by
 exact xip
theorem iq {base':Nat}{W:World}(h:W.ownsRow base e size v n xs)(hb:base'<=base):W.ownsRow base' e size v n xs:=
 ⟨h.1,h.2.imp id λ⟨g,cap,cur,e1,b1,b2⟩=>⟨g,cap,cur,e1,yan hb b1,b2⟩⟩
theorem Kept.drew {lo hi:Nat}(h:Kept lo hi w w'):Kept lo hi w w'.drew:=⟨h.os,h.tape,h.output,h.size,h.block⟩
theorem fK {l h:Nat}{W:World}(o:W.ownsRow base e size v n xs)(k:Kept l h W W')(hd:∀g,v.ownBlock=some g->g<l\/h<=g):W'.ownsRow base e size v n xs:=by
 refine⟨o.1,o.2.imp id ?_⟩
 rintro⟨g,cap,cur,e1,b1,b2,b3⟩
 refine⟨g,cap,cur,e1,b1,?_,b3⟩
 have hg:g<W.heap.size:=by
  exact xbf
 have:=hd g (by rw[e1];rfl)
 rw[k.block g hg xaa]
 exact b2
abbrev OI (w:World)(base G n cap:Nat)(xs:List Int):Prop:=w.ownsRow base 3 1 (.slice (some ⟨G,0,none⟩) n cap) n (xs.map (Value.int .i64))
abbrev IW:Value:=.agg #[.slice none 0 0,.slice none 0 0,.slice none 0 0]
abbrev eZ:Obj:=.cells #[.slice none 0 0,.slice none 0 0,.slice none 0 0] 26
structure RB (W:World)(p:Nat)(b0 b1 b2:Value):Prop where
 sz:p<W.heap.size
 q0:W.cell? ⟨p,0,none⟩=some b0
 q1:W.cell? ⟨p,1,none⟩=some b1
 q2:W.cell? ⟨p,2,none⟩=some b2
 f0:W.frozen? ⟨p,0,none⟩=false
 f1:W.frozen? ⟨p,1,none⟩=false
 f2:W.frozen? ⟨p,2,none⟩=false
theorem RB.keep {W:World}(t:RB W p b0 b1 b2)(k:Kept 0 0 W W'):RB W' p b0 b1 b2:=
 ⟨yaj t.sz k.size,jN k t.sz t.q0,jN k t.sz t.q1,jN k t.sz t.q2,by rw[k.frozen (p:=⟨p,0,none⟩) t.sz xaa];exact t.f0,by rw[k.frozen (p:=⟨p,1,none⟩) t.sz xaa];exact t.f1,by rw[k.frozen (p:=⟨p,2,none⟩) t.sz xaa];exact t.f2⟩
theorem fZ (w:World):RB (w.alloc eZ) w.heap.size (.slice none 0 0) (.slice none 0 0) (.slice none 0 0):=by
 exact xje
theorem eY (w:World)(g:Nat)(a b c:Value)(h0:w.cell? ⟨g,0,none⟩=some a)(h1:w.cell? ⟨g,1,none⟩=some b)(h2:w.cell? ⟨g,2,none⟩=some c)(x y z:Value):
  (((w.setCell ⟨g,0,none⟩ x).setCell ⟨g,1,none⟩ y).setCell ⟨g,2,none⟩ z).cell? ⟨g,0,none⟩=some x/\(((w.setCell ⟨g,0,none⟩ x).setCell ⟨g,1,none⟩ y).setCell ⟨g,2,none⟩ z).cell? ⟨g,1,none⟩=some y/\(((w.setCell ⟨g,0,none⟩ x).setCell ⟨g,1,none⟩ y).setCell ⟨g,2,none⟩ z).cell? ⟨g,2,none⟩=some z:=by
 refine⟨?_,?_,?_⟩
 ·rw[eW _ _ _ _ _ _ (.inr xaa),eW _ _ _ _ _ _ (.inr xaa)];exact fR _ _ _ _ _ h0
 ·rw[eW _ _ _ _ _ _ (.inr xaa)]
  exact fR _ _ _ _ _ (by rw[eW _ _ _ _ _ _ (.inr xaa)];exact h1)
 ·exact fR _ _ _ _ _ (by rw[eW _ _ _ _ _ _ (.inr xaa),eW _ _ _ _ _ _ (.inr xaa)];exact h2)
theorem eC (w:World):Kept 0 0 w w.drew:=⟨rfl,rfl,rfl,yad,λ_ _ _=>rfl⟩
theorem iH {W:World}(h:W.ownsRow base e size v n xs):∃a cap,v=.slice a n cap:=by
 rcases h.2 with⟨e,rfl⟩|⟨g,cap,cur,e,_⟩
 ·exact⟨none,0,e⟩
 ·exact⟨_,cap,e⟩
def Apart (u v:Value):Prop:=∀k,u.ownBlock=some k->v.ownBlock≠some k
theorem kB {b1 b2 e1 e2 s1 s2 n1 n2:Nat}{u:Value}{ys:List Value}{W:World}(h1:W.ownsRow b1 e1 s1 u n1 xs)(h2:W'.ownsRow b2 e2 s2 v n2 ys)(hb:W.heap.size<=b2):Apart u v:=λk hk hv=>by
 have:=(eG h1 hk).2
 have:=(eG h2 hv).1
 omega
theorem zc (w:World)(P B o:Nat)(x y z:Value)(h:B≠P):(((w.setCell ⟨P,0,none⟩ x).setCell ⟨P,1,none⟩ y).setCell ⟨P,2,none⟩ z).cell? ⟨B,o,none⟩=w.cell? ⟨B,o,none⟩:=by
 exact xht
theorem uM {W:World}{xs:List Int}(h:W.ownsRow base 3 1 (.slice b n d) n (xs.map (Value.int .i64)))(hl:xs.length=n):n=0\/∃g,b=some ⟨g,0,none⟩/\base<=g/\IBk W g n xs:=by
 rcases h.2 with⟨_,c⟩|⟨g,cap,cur,e,b1,b2,b3,_,b5,b6⟩
 ·exact .inl c
 ·injection e with q1 q2 q3
  subst q1
  have hg:g<W.heap.size:=by
   exact xbf
  refine .inr ⟨g,rfl,b1,hl,hg,λk hk=>?_,λo=>frozen_of_row W g o _ _ b2⟩
  rw[cell_of_row W g _ cur _ _ b2,<-Array.getElem?_toList]
  exact xfm
theorem IZ.is {W:World}{xs:List Int}(h:IZ W g a n xs)(hl:xs.length=n):IS W 0 W.heap.size a n xs:=
 ⟨hl,by
  rcases h with h0|⟨rfl,q⟩
  ·exact .inl h0
  ·exact .inr ⟨g,0,rfl,Nat.zero_le _,q.lt,q.lt,λk hk=>by rw[Nat.zero_add];exact q.at_ k hk⟩⟩
theorem VZ.vs {W:World}{vs:List Vl}(h:VZ W g a n vs)(hl:vs.length=n)(hk:∀v∈vs,v.k<18446744073709551616):VS W 0 W.heap.size a n vs:=
 ⟨hl,hk,by
  rcases h with h0|⟨rfl,q⟩
  ·exact .inl h0
  ·exact .inr ⟨g,0,rfl,Nat.zero_le _,q.lt,q.lt,λk hk=>by rw[Nat.zero_add];exact q.at_ k hk⟩⟩
theorem zd {W:World}{xs:List Int}(h:W.ownsRow base 3 1 (.slice b n d) n (xs.map (Value.int .i64)))(hl:xs.length=n):IS W 0 W.heap.size b n xs:=by
 rcases uM h hl with h0|⟨g,e,_,q⟩
 ·exact IZ.is (g:=0) (.inl h0) hl
 ·exact IZ.is (g:=g) (.inr ⟨e,q⟩) hl
theorem Fs {W:World}{vs:List Vl}(h:W.ownsRow base 35 6 (.slice b n d) n (fp vs))(hl:vs.length=n)(hk:∀v∈vs,v.k<18446744073709551616):VS W 0 W.heap.size b n vs:=by
 rcases Nat.eq_zero_or_pos n with h0|h0
 ·exact VZ.vs (g:=0) (.inl h0) hl hk
 ·obtain⟨g,cap,e,_,_,_,hA⟩:=kr h h0 hl
  injection e with q1
  exact VZ.vs (g:=g) (.inr ⟨q1,hA⟩) hl hk
theorem G0.keepC {W:World}{S:Nat->Prop}(t:G0 W p b0 b1 b2)(k:Chg S W W')(hd:¬S p):G0 W' p b0 b1 b2:=by
 have e:∀o,W'.cell? ⟨p,o,none⟩=W.cell? ⟨p,o,none⟩:=λo=>k.cell (p:=⟨p,o,none⟩) t.sz hd
 exact⟨yaj t.sz k.size,by rw[e];exact t.q0,by rw[e];exact t.q1,by rw[e];exact t.q2⟩
theorem my (a b:List Vl):eX (a++b)=eX a+eX b:=by
 induction a with
 |nil=>simp[eX]
 |cons y ys ih=>simp[eX,ih];omega
abbrev eI (op n p q r:Int):Vl:=⟨op,n,p,q,r,0⟩
def s8 (n p q:Int)(N:Nat):List Vl×Int:=if p=-1 then ([],q) else if q=-1 then ([],p) else ([eI 2 n p q 0],N)
def s9 (n p q:Int)(N:Nat):List Vl×Int:=if q=-1 then ([],p) else if p=-1 then ([eI 6 n q 0 0],N) else ([eI 3 n p q 0],N)
def chM (n d p q:Int)(N:Nat):List Vl×Int:=
 if p=-1 then (if q=-1 then ([eI 1 n 0 0 0,eI 1 n 0 0 0,eI 8 n d N ((N+1:Nat):Int)],((N+2:Nat):Int)) else ([eI 1 n 0 0 0,eI 8 n d N q],((N+1:Nat):Int)))
 else (if q=-1 then ([eI 1 n 0 0 0,eI 8 n d p N],((N+1:Nat):Int)) else ([eI 8 n d p q],(N:Int)))
def th (v:Vl)(ta tb:Int)(N:Nat):List Vl×Int:=
 if ta=-1 then (if tb=-1 then ([],-1) else ([eI 4 v.len v.a tb 0],(N:Int)))
 else (if tb=-1 then ([eI 4 v.len ta v.b 0],(N:Int)) else ([eI 4 v.len ta v.b 0,eI 4 v.len v.a tb 0,eI 2 v.len N ((N+1:Nat):Int) 0],((N+2:Nat):Int)))
def tr (i:Int)(v:Vl)(ta tb:Int)(N:Nat):List Vl×Int:=
 if ta=-1 then (if tb=-1 then ([],-1) else ([eI 4 v.len i tb 0,eI 5 v.len N v.b 0,eI 6 v.len ((N+1:Nat):Int) 0 0],((N+2:Nat):Int)))
 else (if tb=-1 then ([eI 5 v.len ta v.b 0],(N:Int)) else ([eI 5 v.len ta v.b 0,eI 4 v.len i tb 0,eI 5 v.len ((N+1:Nat):Int) v.b 0,eI 3 v.len N ((N+2:Nat):Int) 0],((N+3:Nat):Int)))
def mvM (i:Int)(v:Vl)(ta tb tc:Int)(N:Nat):List Vl×Int:=
 if ta=-1/\tb=-1/\tc=-1 then ([],-1)
 else if v.op=2 then s8 v.len ta tb N
 else if v.op=3 then s9 v.len ta tb N
 else if v.op=4 then th v ta tb N
 else if v.op=5 then tr i v ta tb N
 else if v.op=7 then ([eI 3 v.len v.a v.b 0]++(chM v.len N ta tb (N+1)).1,(chM v.len N ta tb (N+1)).2)
 else if v.op=8 then (if tb=-1/\tc=-1 then ([],-1) else chM v.len v.a tb tc N)
 else if v.op=13 then ([eI 4 v.len ta i 0],(N:Int))
 else ([eI v.op v.len ta 0 v.c],(N:Int))
def ovs (v:Vl)(mv:List Int)(q j:Nat):Int:=if j<q then mv.getD (fld v j).toNat 0 else -1
theorem xv (v:Vl)(hq:q<cnt v.op):(eN v).getD q 0=[v.a,v.b,v.c].getD q 0:=by
 unfold eN
 rw[yah,yah,List.getElem?_take_of_lt hq]
theorem Cd (v:Vl)(hq:q<3):fld v q=[v.a,v.b,v.c].getD q 0:=by
 rcases (by omega:q=0\/q=1\/q=2) with rfl|rfl|rfl<;>rfl
theorem two {b c:Int}(h:¬(b=-1/\c=-1)):((b==-1)=false)\/((b==-1)=true/\(c==-1)=false):=by
 cases h2:(b==-1)
 ·exact .inl rfl
 ·cases h3:(c==-1)
  ·exact .inr ⟨rfl,rfl⟩
  ·exact absurd ⟨eq_of_beq h2,eq_of_beq h3⟩ h
