import Derived.Test.YtnlffngpnoodkaaGreatP16
import Derived.Test.YtnlffngpnoodkaaGreatP13
import Derived.Deep.RegionHeld3
import Derived.Deep.AppendLies
import Derived.Deep.RegionLaw
namespace Go.Proofs.YtnlffngpnoodkaaGreat
set_option maxRecDepth 1000000
set_option maxHeartbeats 0
open Go.RowKit Flt
attribute [local go_sem] ic ib ia
variable {S:Nat->Prop} {w1 w w9 w' w0 w'' W':World} {g lo e P p k N n d base h n3 n2 off m:Nat} {q c:Int} {xs ins outs:List Int} {u1 b0 u3 b1 b2 u vv:Value} {b a1 a2 a3:Option Addr} {R' R R1:Option Nat} {a:List Vl}
def lg (op:Int):Bool:=decide (op=11\/op=12)
theorem xN (op:Int)(w:World):Calls Tryz.prog 110 #[.int .i64 op] w λe w'=>e=.returned (.bool (lg op))/\w'=w:=by
 by_cases h1:op=11
 ·subst h1
  go_enter Tryz.func110,Tryz.ntmps110
  go_wp2
  go_ret
  exact⟨rfl,rfl⟩
 ·by_cases h2:op=12
  ·subst h2
   go_enter Tryz.func110,Tryz.ntmps110
   go_wp2
   go_ret
   exact⟨rfl,rfl⟩
  ·rw[show lg op=false from decide_eq_false (by omega)]
   have t1:(op==11)=false:=beq_eq_false_iff_ne.2 h1
   have t2:(op==12)=false:=beq_eq_false_iff_ne.2 h2
   clear h1 h2
   go_enter Tryz.func110,Tryz.ntmps110
   go_wp2
   go_ret
   exact⟨rfl,rfl⟩
def jT (v:Vl):Bool:=!(((decide (cnt v.op<1)&&v.op !=0)&&v.a !=0)||(decide (cnt v.op<2)&&v.b !=0)||((decide (cnt v.op<3)&&!lg v.op)&&v.c !=0))
theorem wD (w:World)(op len A B C:Int)(K n:Nat)(hn:n<=3)(p:Bool)(HC:Hid (∀w,Calls Tryz.prog 92 #[.int .i64 op] w λe w'=>e=.returned (.int .i64 (n:Nat))/\w'=w))
  (HP:Hid (∀w,Calls Tryz.prog 110 #[.int .i64 op] w λe w'=>e=.returned (.bool p)/\w'=w)):
  Calls Tryz.prog 78 #[jA op len A B C K] w λe w'=>e=.returned (.bool (!(((decide (n<1)&&op !=0)&&A !=0)||(decide (n<2)&&B !=0)||((decide (n<3)&&!p)&&C !=0))))/\Kept 0 0 w w':=by
 rcases (by omega:n=0\/n=1\/n=2\/n=3) with rfl|rfl|rfl|rfl
 all_goals
  go_enter Tryz.func78,Tryz.ntmps78
  go_wp2_with (first|(go_at_call 92;refine(HC.out _).mono ?_;rintro e w2 ⟨rfl,rfl⟩)|(go_at_call 110;refine(HP.out _).mono ?_;rintro e w2 ⟨rfl,rfl⟩))
  all_goals
   go_ret
   exact⟨by simp_all,hU _ _ _ _⟩
theorem m7 (w:World)(v:Vl):Calls Tryz.prog 78 #[v.agg] w λe w'=>e=.returned (.bool (jT v))/\Kept 0 0 w w':=
 wD w v.op v.len v.a v.b v.c v.k (cnt v.op) (jo _) (lg v.op) (λw=>pF _ w) (λw=>xN _ w)
def iV (v:Vl):List Int:=[v.a,v.b,v.c].take (cnt v.op)
theorem nL (v:Vl):(iV v).length=cnt v.op:=by
 have:=jo v.op
 simp[iV];omega
theorem lh (w:World)(v:Vl):Calls Tryz.prog 67 #[v.agg] w λe w'=>∃g,e=.returned (.slice (some ⟨g,0,none⟩) (cnt v.op) 3)/\IS w' w.heap.size w'.heap.size (some ⟨g,0,none⟩) (cnt v.op) (iV v)/\g+1=w'.heap.size/\Kept 0 0 w w':=by
 have hcnt:=jo v.op
 have hI:Hid _:=(sn (w.alloc (ij v.op v.len v.a v.b v.c v.k)) v.a v.b v.c).prefix (cnt v.op) hcnt
 have HC:Hid (∀w,Calls Tryz.prog 92 #[.int .i64 v.op] w λe w'=>e=.returned (.int .i64 (cnt v.op:Nat))/\w'=w):=pF v.op
 generalize hq:cnt v.op=q at hI HC hcnt
 have b0:(0:Int)<=(q:Int):=by omega
 have b1:(q:Int)<=3:=by omega
 go_enter Tryz.func67,Tryz.ntmps67
 go_wp2_with fail
 go_region_held3 (λw'=>w'.cell? ⟨w.heap.size,0,none⟩=some (.int .i64 v.op)/\w'.cell? ⟨w.heap.size,2,none⟩=some (.int .i64 v.a)/\w'.cell? ⟨w.heap.size,3,none⟩=some (.int .i64 v.b)/\w'.cell? ⟨w.heap.size,4,none⟩=some (.int .i64 v.c)) (go_keep)
  ((go_at_call 92;refine(HC.out _).mono ?_;rintro e w2 ⟨rfl,rfl⟩))
 all_goals
  go_wp2
  go_ret
  have h1:(w.alloc (ij v.op v.len v.a v.b v.c v.k)).heap.size=w.heap.size+1:=by simp
  have hI':=hI.out
  rw[h1] at hI'
  refine⟨w.heap.size+1,rfl,⟨hI'.len.trans rfl |> λe=>by rw[iV,hq];exact e,?_⟩,?_,?_⟩
  ·rcases hI'.at_ with h0|⟨g,off,e,a1,a2,a3,a4⟩
   ·exact .inl h0
   ·cases e
    refine .inr ⟨_,_,rfl,Nat.le_succ _,?_,?_,λk hk=>?_⟩
    ·exact a3
    ·exact a3
    ·rw[iV,hq];exact a4 k hk
  ·show w.heap.size+1+1=((w.alloc _).alloc _).heap.size
   simp
  ·exact((hU 0 0 w _).trans (hU 0 0 _ _)).trans (iq 0 0 _ 1)
def okV (ins:List Int)(vs:List Vl)(i:Nat):Bool:=
 (iJ (vs.getD i Vl.zero).len&&jT (vs.getD i Vl.zero))&&
  (if (vs.getD i Vl.zero).op=0 then iL (vs.getD i Vl.zero).a ins.length&&(vs.getD i Vl.zero).len==ins.getD (vs.getD i Vl.zero).a.toNat 0
   else (iV (vs.getD i Vl.zero)).all (iL · i)&&im (vs.getD i Vl.zero).op (vs.getD i Vl.zero).len (vs.getD i Vl.zero).c ((iV (vs.getD i Vl.zero)).map λo=>(vs.getD o.toNat Vl.zero).len))
abbrev iv (a1:Option Addr)(n1 c1:Nat)(a2:Option Addr)(n2 c2:Nat)(a3:Option Addr)(n3 c3:Nat):Obj:=.cells #[.slice a1 n1 c1,.slice a2 n2 c2,.slice a3 n3 c3] 26
theorem p8 (w:World)(a1 a3:Option Addr)(n1 c1 n2 c2 n3 c3 g2 o2 i:Nat)(v:Vl)(hg:g2<w.heap.size)(hi:i<n2)(hat:At w g2 (o2+i*6) v)(hl:iJ v.len=false):
  Calls Tryz.prog 57 #[ip a1 n1 c1 (some ⟨g2,o2,none⟩) n2 c2 a3 n3 c3,.int .i64 (i:Int)] w λe w'=>e=.returned (.bool false)/\Kept 0 0 w w':=by
 have hL:Hid (∀w,Calls Tryz.prog 56 #[.int .i64 v.len] w λe w'=>e=.returned (.bool false)/\w'=w):=λw=>by
  have:=je v.len w
  rw[hl] at this
  exact this
 clear hl
 have hK:=hU 0 0 w (iv a1 n1 c1 (some ⟨g2,o2,none⟩) n2 c2 a3 n3 c3)
 obtain⟨e0,e1,e2,e3,e4,e5⟩:=hat.keep hg hK (.inr (.inr (Nat.le_refl _)))
 clear hat hK
 go_enter Tryz.func57,Tryz.ntmps57
 go_wp2_with (go_at_call 56;refine(hL.out _).mono ?_;rintro e w2 ⟨rfl,rfl⟩)
 go_ret
 exact⟨rfl,(hU 0 0 w _).trans (hU 0 0 _ _)⟩
theorem p9 (w:World)(a1 a3:Option Addr)(n1 c1 n2 c2 n3 c3 g2 o2 i:Nat)(v:Vl)(hg:g2<w.heap.size)(hi:i<n2)(hat:At w g2 (o2+i*6) v)(hl:iJ v.len=true)(hs:jT v=false):
  Calls Tryz.prog 57 #[ip a1 n1 c1 (some ⟨g2,o2,none⟩) n2 c2 a3 n3 c3,.int .i64 (i:Int)] w λe w'=>e=.returned (.bool false)/\Kept 0 0 w w':=by
 have hL:Hid (∀w,Calls Tryz.prog 56 #[.int .i64 v.len] w λe w'=>e=.returned (.bool true)/\w'=w):=λw=>by
  have:=je v.len w
  rw[hl] at this
  exact this
 have hS:Hid (∀w,Calls Tryz.prog 78 #[v.agg] w λe w'=>e=.returned (.bool false)/\Kept 0 0 w w'):=λw=>by
  have:=m7 w v
  rw[hs] at this
  exact this
 clear hl hs
 have hK:=hU 0 0 w (iv a1 n1 c1 (some ⟨g2,o2,none⟩) n2 c2 a3 n3 c3)
 obtain⟨e0,e1,e2,e3,e4,e5⟩:=hat.keep hg hK (.inr (.inr (Nat.le_refl _)))
 clear hat hK
 go_enter Tryz.func57,Tryz.ntmps57
 go_wp2_with (first|(go_at_call 56;refine(hL.out _).mono ?_;rintro e w2 ⟨rfl,rfl⟩)|(go_at_call 78;refine(hS.out _).mono ?_;rintro e w2 ⟨rfl,hk2⟩))
 go_ret
 exact⟨rfl,((hU 0 0 w _).trans (hU 0 0 _ _)).trans hk2⟩
structure GB (W:World)(p:Nat)(b0 b1 b2:Value)(v:Vl):Prop where
 sz:p+1<W.heap.size
 q0:W.cell? ⟨p,0,none⟩=some b0
 q1:W.cell? ⟨p,1,none⟩=some b1
 q2:W.cell? ⟨p,2,none⟩=some b2
 vt:At W (p+1) 0 v
theorem GB.keep {W:World}{v:Vl}(t:GB W p b0 b1 b2 v)(k:Kept 0 0 W W'):GB W' p b0 b1 b2 v:=by
 have e:∀g o,g<=p+1->W'.cell? ⟨g,o,none⟩=W.cell? ⟨g,o,none⟩:=λg o h=>k.cell (p:=⟨g,o,none⟩) (Nat.lt_of_le_of_lt h t.sz) (by omega)
 exact⟨Nat.lt_of_lt_of_le t.sz k.size,by rw[e _ _ (by omega)];exact t.q0,by rw[e _ _ (by omega)];exact t.q1,by rw[e _ _ (by omega)];exact t.q2,t.vt.keep t.sz k (.inr (.inr (Nat.le_refl _)))⟩
theorem oE (w:World)(b0 b1 b2:Value)(v:Vl):GB ((w.alloc (.cells #[b0,b1,b2] 26)).alloc (ij v.op v.len v.a v.b v.c v.k)) w.heap.size b0 b1 b2 v:=by
 have h1:(w.alloc (.cells #[b0,b1,b2] 26)).heap.size=w.heap.size+1:=by simp
 refine⟨?_,?_,?_,?_,?_,?_,?_,?_,?_,?_⟩
 all_goals first|(go_simp;done)|(simp;done)
theorem qa (w:World)(a1 a3:Option Addr)(n1 c1 n2 c2 n3 c3 g2 o2 i:Nat)(len A B C:Int)(K:Nat)(ins:List Int)(f:IS w 0 w.heap.size a1 n1 ins)(hg:g2<w.heap.size)(hi:i<n2)(hat:At w g2 (o2+i*6) ⟨0,len,A,B,C,K⟩)(hl:iJ len=true)(hs:jT ⟨0,len,A,B,C,K⟩=true):
  Calls Tryz.prog 57 #[ip a1 n1 c1 (some ⟨g2,o2,none⟩) n2 c2 a3 n3 c3,.int .i64 (i:Int)] w λe w'=>e=.returned (.bool (iL A n1&&len==ins.getD A.toNat 0))/\Kept 0 0 w w':=by
 have hL:Hid (∀w,Calls Tryz.prog 56 #[.int .i64 len] w λe w'=>e=.returned (.bool true)/\w'=w):=λw=>by
  have:=je len w
  rw[hl] at this
  exact this
 have hS:Hid (∀w,Calls Tryz.prog 78 #[jA 0 len A B C K] w λe w'=>e=.returned (.bool true)/\Kept 0 0 w w'):=λw=>by
  have:=m7 w ⟨0,len,A,B,C,K⟩
  rw[hs] at this
  exact this
 clear hl hs
 have hK:=hU 0 0 w (iv a1 n1 c1 (some ⟨g2,o2,none⟩) n2 c2 a3 n3 c3)
 obtain⟨e0,e1,e2,e3,e4,e5⟩:=hat.keep hg hK (.inr (.inr (Nat.le_refl _)))
 have hK2:Hid _:=hK.trans (hU 0 0 _ (ij 0 len A B C K))
 have hB:Hid _:=oE w (.slice a1 n1 c1) (.slice (some ⟨g2,o2,none⟩) n2 c2) (.slice a3 n3 c3) ⟨0,len,A,B,C,K⟩
 clear hat hK
 simp only at e0 e1 e2 e3 e4 e5
 by_cases hA:0<=A/\A<n1
 ·obtain⟨j,rfl⟩:∃j:Nat,A=j:=⟨A.toNat,by omega⟩
  rw[show iL (j:Int) n1=true from decide_eq_true hA,Bool.true_and,Int.toNat_natCast]
  have hj:j<n1:=by omega
  have hI:Hid (∀w,Calls Tryz.prog 58 #[.int .i64 (j:Int),.int .i64 (n1:Int)] w λe w'=>e=.returned (.bool true)/\w'=w):=λw=>by
   have:=jx (j:Int) n1 w
   rw[show iL (j:Int) n1=true from decide_eq_true hA] at this
   exact this
  clear hA
  rcases f.at_ with h0|⟨g1,o1,rfl,b1,b2,b3,b4⟩
  ·omega
  have c0:=b4 j hj
  clear b4 f b1 b2
  generalize ins.getD j 0=y at c0 ⊢
  go_enter Tryz.func57,Tryz.ntmps57
  go_wp2_with (first|(go_at_call 56;refine(hL.out _).mono ?_;rintro e w2 ⟨rfl,rfl⟩)|fail)
  refine(hS.out _).mono ?_
  rintro e w3 ⟨rfl,hk3⟩
  have hK3:=hK2.out.trans hk3
  have hB3:=hB.out.keep hk3
  have q0:=hB3.q0
  have d0:=hB3.vt.c0
  have d1:=hB3.vt.c1
  have d2:=hB3.vt.c2
  have c1:=jq hK3 b3 c0
  have HK3:Hid _:=hK3
  simp only at d0 d1 d2
  clear hK3 hB3 hk3 c0 e0 e1 e2 e3 e4 e5
  have j0:(0:Int)<=(j:Int):=by omega
  have j1:(j:Int)<(n1:Int):=by omega
  go_wp2_with fail
  go_quiet ((go_at_call 58;exact Calls.quiet_of_same (hI.out _)))
  go_wp2
  go_ret
  exact⟨rfl,HK3.out.trans (iq 0 0 _ _)⟩
 ·rw[show iL A n1=false from decide_eq_false hA,Bool.false_and]
  have hI:Hid (∀w,Calls Tryz.prog 58 #[.int .i64 A,.int .i64 (n1:Int)] w λe w'=>e=.returned (.bool false)/\w'=w):=λw=>by
   have:=jx A n1 w
   rw[show iL A n1=false from decide_eq_false hA] at this
   exact this
  clear hA
  go_enter Tryz.func57,Tryz.ntmps57
  go_wp2_with (first|(go_at_call 56;refine(hL.out _).mono ?_;rintro e w2 ⟨rfl,rfl⟩)|fail)
  refine(hS.out _).mono ?_
  rintro e w3 ⟨rfl,hk3⟩
  have hK3:=hK2.out.trans hk3
  have hB3:=hB.out.keep hk3
  have q0:=hB3.q0
  have d0:=hB3.vt.c0
  have d1:=hB3.vt.c1
  have d2:=hB3.vt.c2
  have HK3:Hid _:=hK3
  simp only at d0 d1 d2
  clear hK3 hB3 hk3 e0 e1 e2 e3 e4 e5
  go_wp2_with fail
  go_quiet ((go_at_call 58;exact Calls.quiet_of_same (hI.out _)))
  go_wp2
  go_ret
  exact⟨rfl,HK3.out.trans (iq 0 0 _ _)⟩
theorem mu {p:Int->Bool}(hk:k<xs.length)(h:(xs.take k).all p=true)(t:p (xs.getD k 0)=true):(xs.take (k+1)).all p=true:=by
 rw[List.take_succ_eq_append_getElem hk,List.all_append,h]
 rw[List.getD_eq_getElem?_getD,List.getElem?_eq_getElem hk] at t
 simpa using t
theorem m8 {p:Int->Bool}(hk:k<xs.length)(t:p (xs.getD k 0)=false):xs.all p=false:=by
 rw[List.getD_eq_getElem?_getD,List.getElem?_eq_getElem hk] at t
 rw[List.all_eq_false]
 exact⟨xs[k],List.getElem_mem _,by simpa using t⟩
theorem wE {f:Int->Int}(hk:k<xs.length):(xs.map f).getD k 0=f (xs.getD k 0):=by
 simp[List.getD_eq_getElem?_getD,List.getElem?_eq_getElem hk]
theorem sE (w:World)(a1 a3:Option Addr)(n1 c1 n2 c2 n3 c3 g2 o2 i:Nat)(v:Vl)(vs:List Vl)(hg:g2<w.heap.size)(hi:i<n2)
  (hall:∀k,k<n2->At w g2 (o2+k*6) (vs.getD k Vl.zero)) (hv:vs.getD i Vl.zero=v) (hl:iJ v.len=true) (hs:jT v=true) (h0:v.op≠0):
  Calls Tryz.prog 57 #[ip a1 n1 c1 (some ⟨g2,o2,none⟩) n2 c2 a3 n3 c3,.int .i64 (i:Int)] w λe w'=>e=.returned (.bool ((iV v).all (iL · i)&&im v.op v.len v.c ((iV v).map λo=>(vs.getD o.toNat Vl.zero).len)))/\Kept 0 0 w w':=by
 have hL:Hid (∀w,Calls Tryz.prog 56 #[.int .i64 v.len] w λe w'=>e=.returned (.bool true)/\w'=w):=λw=>by
  have:=je v.len w
  rw[hl] at this
  exact this
 have hS:Hid (∀w,Calls Tryz.prog 78 #[v.agg] w λe w'=>e=.returned (.bool true)/\Kept 0 0 w w'):=λw=>by
  have:=m7 w v
  rw[hs] at this
  exact this
 clear hl hs
 have hK:=hU 0 0 w (iv a1 n1 c1 (some ⟨g2,o2,none⟩) n2 c2 a3 n3 c3)
 have hat:=hall i hi
 rw[hv] at hat
 have HA:Hid (∀k,k<n2->At w g2 (o2+k*6) (vs.getD k Vl.zero)):=hall
 clear hall hv
 obtain⟨e0,e1,e2,e3,e4,e5⟩:=hat.keep hg hK (.inr (.inr (Nat.le_refl _)))
 have hK2:Hid _:=hK.trans (hU 0 0 _ (ij v.op v.len v.a v.b v.c v.k))
 have hB:Hid _:=oE w (.slice a1 n1 c1) (.slice (some ⟨g2,o2,none⟩) n2 c2) (.slice a3 n3 c3) v
 clear hat hK
 have t0:(v.op==0)=false:=beq_eq_false_iff_ne.2 h0
 clear h0
 go_enter Tryz.func57,Tryz.ntmps57
 go_wp2_with (first|(go_at_call 56;refine(hL.out _).mono ?_;rintro e w2 ⟨rfl,rfl⟩)|fail)
 refine(hS.out _).mono ?_
 rintro e w3 ⟨rfl,hk3⟩
 have hK3:=hK2.out.trans hk3
 have hB3:=hB.out.keep hk3
 obtain⟨d0,d1,d2,d3,d4,d5⟩:=hB3.vt
 have HK3:Hid _:=hK3
 have HB3:Hid _:=hB3
 clear hK3 hB3 hk3 hB hK2 e0 e1 e2 e3 e4 e5
 simp only[Nat.zero_add] at d1 d2 d3 d4 d5
 go_wp2_with fail
 refine(lh _ v).mono ?_
 rintro e w4 ⟨G,rfl,fo,hG,hk4⟩
 have HK4:Hid _:=HK3.out.trans hk4
 have HB4:Hid _:=HB3.out.keep hk4
 have HG:Hid (G+1=w4.heap.size):=hG
 clear HK3 HB3 hk4 d0 d1 d2 d3 d4 d5 hG
 have hq:cnt v.op<=3:=jo _
 have hm:=sD (cnt v.op) w4 (by omega)
 have hIR:=IR.made w4 (cnt v.op)
 have hKm:=hU 0 0 w4 (.cells (madeCells #[.int .i64 0] (cnt v.op)) 3)
 have HOL:Hid ((iV v).length=cnt v.op):=nL v
 have HF:Hid (∀W a cap xs,IS W 0 W.heap.size a (cnt v.op) xs->Calls Tryz.prog 79 #[v.agg,.slice a (cnt v.op) cap] W λe w'=>e=.returned (.bool (im v.op v.len v.c xs))/\Kept 0 0 W w'):=λW a cap xs f=>oX W v.op v.len v.a v.b v.c v.k 0 W.heap.size a (cnt v.op) cap xs f rfl
 generalize cnt v.op=q at hq hm hIR hKm HOL HF fo
 generalize hos:iV v=os at HOL fo
 have HOS:Hid (iV v=os):=hos
 clear hos
 generalize hw5:w4.alloc (.cells (madeCells #[.int .i64 0] q) 3)=w5 at hm hIR hKm
 clear hw5
 go_wp2_with fail
 clear hm
 have hLq:Hid ((os.map λo:Int=>(vs.getD o.toNat Vl.zero).len).length=q):=by show(os.map _).length=q;rw[List.length_map];exact HOL.out
 have HMP:Hid (∀k,k<q->(os.map λo:Int=>(vs.getD o.toNat Vl.zero).len).getD k 0=(vs.getD (os.getD k 0).toNat Vl.zero).len):=λk hk=>wE (by rw[HOL.out];exact hk)
 have fo':Hid _:=fo
 go_loopw [51] (λix W=>∃k:Nat,k<=q/\ix=.int .i64 k/\Hid ((os.take k).all (iL · i)=true)/\IR W w4.heap.size ((os.map λo:Int=>(vs.getD o.toNat Vl.zero).len).take k++(List.replicate q 0).drop k)/\Kept 0 0 w4 W) (λix _=>q-(intOf ix).toNat)
 case atStart=>exact⟨0,Nat.zero_le _,rfl,rfl,by simpa using hIR,hKm⟩
 case round=>
  obtain⟨k,hk,rfl,hA,hF,hKW⟩:=hrel
  clear hIR hKm
  by_cases hlt:k<q
  ·rcases fo.at_ with z0|⟨ga,oa,ea,z1,z2,z3,z4⟩
   ·omega
   cases ea
   have c1:=jq hKW z3 (z4 k hlt)
   rw[Nat.zero_add] at c1
   clear z4 z1 z2 z3 fo
   by_cases hx:iL (os.getD k 0) i=true
   ·have hx':=of_decide_eq_true hx
    obtain⟨j,hj⟩:∃j:Nat,os.getD k 0=j:=⟨(os.getD k 0).toNat,by omega⟩
    have hA':Hid _:=mu (p:=(iL · i)) (by rw[HOL.out];exact hlt) hA.out hx
    have hML:=HMP.out k hlt
    rw[hj] at c1 hx hx' hML
    rw[Int.toNat_natCast] at hML
    have hji:j<i:=by omega
    have hI:Hid (∀w,Calls Tryz.prog 58 #[.int .i64 (j:Int),.int .i64 (i:Int)] w λe w'=>e=.returned (.bool true)/\w'=w):=λw=>by
     have:=jx (j:Int) i w
     rw[hx] at this
     exact this
    have u:=(jq (HK4.out.trans hKW) hg (HA.out j (by omega)).c1)
    have q1:=(HB4.out.keep hKW).q1
    have s1:=hF.free k
    have hll:((os.map λo:Int=>(vs.getD o.toNat Vl.zero).len).take k++(List.replicate q 0).drop k).length=q:=by rw[List.length_append,List.length_take,List.length_drop,hLq.out,List.length_replicate];omega
    have s2:=hF.cell k (by omega)
    rw[<-hML] at u
    have R1:Hid _:=hF.set k ((os.map λo:Int=>(vs.getD o.toNat Vl.zero).len).getD k 0)
    have R2:Hid _:=hKW.new (it (lo:=w4.heap.size) (hi:=w4.heap.size+1) wr ⟨w4.heap.size,k,none⟩ (.int .i64 ((os.map λo:Int=>(vs.getD o.toNat Vl.zero).len).getD k 0)) (.inl ⟨Nat.le_refl _,Nat.lt_succ_self _⟩)) (Nat.le_refl _)
    have R3:Hid _:=wC (os.map λo:Int=>(vs.getD o.toNat Vl.zero).len) (List.replicate q 0) k (by rw[hLq.out];exact hlt) (by rw[hLq.out];simp)
    generalize (os.map λo:Int=>(vs.getD o.toNat Vl.zero).len).getD k 0=y at u R1 R2 R3
    clear hML hF hKW hll hx hx' hj hA
    go_wp2_with ((go_at_call 58;refine(hI.out _).mono ?_;rintro e w2 ⟨rfl,rfl⟩))
    go_roundw
    case rel=>
     refine⟨k+1,by omega,by go_num,hA',?_,R2.out⟩
     have:=R1.out
     rw[R3.out] at this
     exact this
    case measure=>simp[intOf];omega
   ·have hx':iL (os.getD k 0) i=false:=by simpa using hx
    have R:Hid (os.all (iL · i)=false):=m8 (by rw[HOL.out];exact hlt) hx'
    have hI:Hid (∀w,Calls Tryz.prog 58 #[.int .i64 (os.getD k 0),.int .i64 (i:Int)] w λe w'=>e=.returned (.bool false)/\w'=w):=λw=>by
     have:=jx (os.getD k 0) i w
     rw[hx'] at this
     exact this
    have R2:Hid _:=HK4.out.trans hKW
    clear hx hx' hKW hF hA
    go_wp2_with ((go_at_call 58;refine(hI.out _).mono ?_;rintro e w2 ⟨rfl,rfl⟩))
    go_ret
    exact⟨by rw[HOS.out,R.out];rfl,R2.out⟩
  ·obtain rfl:k=q:=by omega
   have R:Hid (os.all (iL · i)=true):=by
    have:=hA.out
    rw[List.take_of_length_le (by rw[HOL.out];omega)] at this
    exact this
   have hF2:IR wr w4.heap.size (os.map λo:Int=>(vs.getD o.toNat Vl.zero).len):=by
    rw[List.take_of_length_le (by rw[hLq.out];omega),List.drop_of_length_le (by simp),List.append_nil] at hF
    exact hF
   have hI:=hF2.is
   rw[hLq.out] at hI
   have hC:Hid _:=λcap=>HF.out wr _ cap _ hI
   have R2:Hid _:=HK4.out.trans hKW
   obtain⟨d0,d1,d2,d3,d4,d5⟩:=(HB4.out.keep hKW).vt
   simp only[Nat.zero_add] at d1 d2 d3 d4 d5
   clear hI hF2 hF hA hKW fo
   go_wp2_with fail
   refine(hC.out _).mono ?_
   rintro e w9 ⟨rfl,hk9⟩
   have R3:Hid _:=R2.out.trans hk9
   clear hk9 d0 d1 d2 d3 d4 d5
   go_wp2
   go_ret
   exact⟨by rw[HOS.out,R.out];rfl,R3.out⟩
theorem xO (w:World)(a1 a2 a3:Option Addr)(n1 c1 n2 c2 n3 c3 i:Nat)(ins:List Int)(vs:List Vl)(outs:List Int)(f:GS w a1 n1 a2 n2 a3 n3 ins vs outs)(hi:i<n2):
  Calls Tryz.prog 57 #[ip a1 n1 c1 a2 n2 c2 a3 n3 c3,.int .i64 (i:Int)] w λe w'=>e=.returned (.bool (okV ins vs i))/\Kept 0 0 w w':=by
 rcases f.v.at_ with h0|⟨g2,o2,rfl,b1,b2,b3,b4⟩
 ·omega
 have hat:=b4 i hi
 unfold okV
 generalize hv:vs.getD i Vl.zero=v at hat
 cases hl:iJ v.len
 ·exact p8 w a1 a3 n1 c1 n2 c2 n3 c3 g2 o2 i v b3 hi hat hl
 cases hs:jT v
 ·exact p9 w a1 a3 n1 c1 n2 c2 n3 c3 g2 o2 i v b3 hi hat hl hs
 by_cases h0:v.op=0
 ·rw[if_pos h0,f.i.len]
  obtain⟨op,len,A,B,C,K⟩:=v
  simp only at h0
  subst h0
  exact qa w a1 a3 n1 c1 n2 c2 n3 c3 g2 o2 i len A B C K ins f.i b3 hi hat hl hs
 ·rw[if_neg h0]
  exact sE w a1 a3 n1 c1 n2 c2 n3 c3 g2 o2 i v vs b3 hi b4 hv hl hs h0
def ig:List Vl->Int
 |[]=>0
 |v::vs=>v.len+ig vs
def okG (ins:List Int)(vs:List Vl)(outs:List Int):Bool:=
 decide (ins.length<=20/\vs.length<=2000/\outs.length<=50)&&(ins.all iJ&&((List.range vs.length).all (okV ins vs)&&(outs.all (iL · vs.length)&&decide (ig vs<=50000))))
theorem n4 (xs:List Vl)(v:Vl):ig (xs++[v])=ig xs+v.len:=by
 induction xs with
 |nil=>simp[ig]
 |cons y ys ih=>simp[ig,ih];omega
theorem mc {vs:List Vl}(hk:k<vs.length):ig (vs.take (k+1))=ig (vs.take k)+(vs.getD k Vl.zero).len:=by
 rw[List.take_succ_eq_append_getElem hk,n4,List.getD_eq_getElem?_getD,List.getElem?_eq_getElem hk];rfl
theorem li {p:Nat->Bool}(h:(List.range k).all p=true)(t:p k=true):(List.range (k+1)).all p=true:=by
 rw[List.range_succ,List.all_append,h];simpa using t
theorem lG {p:Nat->Bool}(hk:k<n)(t:p k=false):(List.range n).all p=false:=by
 rw[List.all_eq_false]
 exact⟨k,List.mem_range.2 hk,by simpa using t⟩
theorem ja {vs:List Vl}{i:Nat}(h:okV ins vs i=true):1<=(vs.getD i Vl.zero).len/\(vs.getD i Vl.zero).len<=1000:=by
 unfold okV at h
 rw[Bool.and_eq_true,Bool.and_eq_true] at h
 exact of_decide_eq_true h.1.1
structure G0 (W:World)(p:Nat)(b0 b1 b2:Value):Prop where
 sz:p<W.heap.size
 q0:W.cell? ⟨p,0,none⟩=some b0
 q1:W.cell? ⟨p,1,none⟩=some b1
 q2:W.cell? ⟨p,2,none⟩=some b2
theorem G0.keep {W:World}(t:G0 W p b0 b1 b2)(k:Kept 0 0 W W'):G0 W' p b0 b1 b2:=
 ⟨Nat.lt_of_lt_of_le t.sz k.size,jq k t.sz t.q0,jq k t.sz t.q1,jq k t.sz t.q2⟩
theorem iO (w:World)(b0 b1 b2:Value):G0 (w.alloc (.cells #[b0,b1,b2] 26)) w.heap.size b0 b1 b2:=by
 refine⟨?_,?_,?_,?_⟩
 all_goals first|(go_simp;done)|(simp;done)
theorem sF (w:World)(a1 a2 a3:Option Addr)(n1 c1 n2 c2 n3 c3:Nat)(ins:List Int)(vs:List Vl)(outs:List Int)(f:GS w a1 n1 a2 n2 a3 n3 ins vs outs)(h1:n1<=20)(h2:n2<=2000)(h3:n3<=50):
  Calls Tryz.prog 27 #[ip a1 n1 c1 a2 n2 c2 a3 n3 c3] w λe w'=>e=.returned (.bool (ins.all iJ&&((List.range n2).all (okV ins vs)&&(outs.all (iL · n2)&&decide (ig vs<=50000)))))/\Kept 0 0 w w':=by
 have hK:Hid _:=hU 0 0 w (iv a1 n1 c1 a2 n2 c2 a3 n3 c3)
 have hB:=iO w (.slice a1 n1 c1) (.slice a2 n2 c2) (.slice a3 n3 c3)
 have HF:Hid _:=f.keep hK.out
 have HL1:Hid (ins.length=n1):=f.i.len
 have HL2:Hid (vs.length=n2):=f.v.len
 have HL3:Hid (outs.length=n3):=f.o.len
 clear f
 go_enter Tryz.func27,Tryz.ntmps27
 go_wp2_with fail
 generalize hw1:w.alloc (.cells #[.slice a1 n1 c1,.slice a2 n2 c2,.slice a3 n3 c3] 26)=w1 at hK hB HF ⊢
 clear hw1
 go_loop [29] (λi=>∃k:Nat,k<=n1/\i=.int .i64 k/\Hid ((ins.take k).all iJ=true)) (λi=>n1-(intOf i).toNat)
 case atStart=>exact⟨0,Nat.zero_le _,rfl,rfl⟩
 case round=>
  obtain⟨k,hk,rfl,hA⟩:=hrel
  by_cases hlt:k<n1
  ·rcases HF.out.i.at_ with z0|⟨ga,oa,ea,z1,z2,z3,z4⟩
   ·omega
   have c:=z4 k hlt
   subst ea
   clear z1 z2 z3 z4
   cases hx:iJ (ins.getD k 0)
   ·have R:Hid (ins.all iJ=false):=m8 (by rw[HL1.out];exact hlt) hx
    have hI:Hid (∀w,Calls Tryz.prog 56 #[.int .i64 (ins.getD k 0)] w λe w'=>e=.returned (.bool false)/\w'=w):=λw=>by
     have:=je (ins.getD k 0) w
     rw[hx] at this
     exact this
    generalize ins.getD k 0=y at c hI
    clear hx hA
    go_wp2_with ((go_at_call 56;refine(hI.out _).mono ?_;rintro e w2 ⟨rfl,rfl⟩))
    go_ret
    exact⟨by rw[R.out];rfl,hK.out⟩
   ·have R:Hid _:=mu (p:=iJ) (by rw[HL1.out];exact hlt) hA.out hx
    have hI:Hid (∀w,Calls Tryz.prog 56 #[.int .i64 (ins.getD k 0)] w λe w'=>e=.returned (.bool true)/\w'=w):=λw=>by
     have:=je (ins.getD k 0) w
     rw[hx] at this
     exact this
    generalize ins.getD k 0=y at c hI
    clear hx hA
    go_wp2_with ((go_at_call 56;refine(hI.out _).mono ?_;rintro e w2 ⟨rfl,rfl⟩))
    go_round
    case rel=>exact⟨k+1,by omega,by go_num,R⟩
    case measure=>simp[intOf];omega
  ·have R1:Hid (ins.all iJ=true):=by
    have:=hA.out
    rw[List.take_of_length_le (by rw[HL1.out];omega)] at this
    exact this
   clear hA
   have q1:=hB.q1
   go_wp2_with fail
   clear q1
   go_loopw [5,40] (λc i W=>∃k:Nat,k<=n2/\i=.int .i64 k/\c=.int .i64 (ig (vs.take k))/\Hid (0<=ig (vs.take k)/\ig (vs.take k)<=1000*k)/\Hid ((List.range k).all (okV ins vs)=true)/\Kept 0 0 w1 W) (λ_ i _=>n2-(intOf i).toNat)
   case atStart=>exact⟨0,Nat.zero_le _,rfl,rfl,by constructor<;>simp[ig],rfl,Kept.refl _ _ _⟩
   case round=>
    obtain⟨k2,hk2,rfl,rfl,hb,hA,hKW⟩:=hrel
    by_cases hlt2:k2<n2
    ·rcases HF.out.v.at_ with z0|⟨ga,oa,ea,z1,z2,z3,z4⟩
     ·omega
     have hat:=(z4 k2 hlt2).keep z3 hKW (.inr (.inr (Nat.le_refl _)))
     have HX:Hid _:=λo=>xO (wr.alloc o) a1 a2 a3 n1 c1 n2 c2 n3 c3 k2 ins vs outs (HF.out.keep (hKW.trans (hU 0 0 wr o))) hlt2
     have HKW:Hid _:=hKW
     have HST:Hid _:=mc (vs:=vs) (k:=k2) (by rw[HL2.out];exact hlt2)
     clear z1 z2 z3 z4 hKW
     cases hx:okV ins vs k2
     ·have R:Hid ((List.range n2).all (okV ins vs)=false):=lG hlt2 hx
      rw[hx] at HX
      generalize vs.getD k2 Vl.zero=v at hat HST
      obtain⟨e0,e1,e2,e3,e4,e5⟩:=hat
      obtain⟨_,q0,q1,q2⟩:=hB.keep (HKW.out.trans (hU 0 0 wr (ij v.op v.len v.a v.b v.c v.k)))
      clear hx hA HST
      subst ea
      go_wp2_with ((go_at_call 57;refine(HX.out _).mono ?_;rintro e w2 ⟨rfl,hk9⟩))
      go_ret
      exact⟨by rw[R1.out,R.out];rfl,((hK.out.trans HKW.out).trans (hU 0 0 _ _)).trans hk9⟩
     ·have R:Hid _:=li hA.out hx
      have hlv:Hid _:=ja hx
      rw[hx] at HX
      generalize vs.getD k2 Vl.zero=v at hat HST hlv
      obtain⟨e0,e1,e2,e3,e4,e5⟩:=hat
      obtain⟨_,q0,q1,q2⟩:=hB.keep (HKW.out.trans (hU 0 0 wr (ij v.op v.len v.a v.b v.c v.k)))
      clear hx hA
      subst ea
      go_wp2_with fail
      refine(HX.out _).mono ?_
      rintro e w2 ⟨rfl,hk9⟩
      have hbx:w2.cell? ⟨wr.heap.size,1,none⟩=some (.int .i64 v.len):=jq hk9 (by simp) (by simp)
      have R2:Hid _:=(HKW.out.trans (hU 0 0 _ _)).trans hk9
      clear hk9 q0 q1 q2 e0 e1 e2 e3 e4 e5
      have hs1:-1000000000<=ig (vs.take k2)+v.len:=by have:=hb.out;have:=hlv.out;omega
      have hs2:ig (vs.take k2)+v.len<=1000000000:=by have:=hb.out;have:=hlv.out;omega
      have HH:Hid (0<=ig (vs.take (k2+1))/\ig (vs.take (k2+1))<=1000*((k2+1:Nat):Int)):=by
       have g1:=hb.out
       have g2:=hlv.out
       have g3:=HST.out
       constructor<;>omega
      generalize hcc:ig (vs.take k2)=cc at hs1 hs2 HST
      clear hb hcc
      go_wp2
      go_roundw
      case rel=>exact⟨k2+1,by omega,by go_num,by rw[HST.out],HH,R,R2.out⟩
      case measure=>simp[intOf];omega
    ·have R2:Hid ((List.range n2).all (okV ins vs)=true):=by
      have:=hA.out
      rw[show k2=n2 by omega] at this
      exact this
     have R3:Hid (ig (vs.take k2)=ig vs):=by
      show ig (vs.take k2)=ig vs
      rw[List.take_of_length_le (by rw[HL2.out];omega)]
     have hB2:=hB.keep hKW
     have HF2:Hid _:=HF.out.keep hKW
     have HKW:Hid _:=hK.out.trans hKW
     have q1:=hB2.q1
     have q2:=hB2.q2
     clear hA hKW
     go_wp2_with fail
     go_loop [57] (λi=>∃k:Nat,k<=n3/\i=.int .i64 k/\Hid ((outs.take k).all (iL · n2)=true)) (λi=>n3-(intOf i).toNat)
     case atStart=>exact⟨0,Nat.zero_le _,rfl,rfl⟩
     case round=>
      obtain⟨k3,hk3,rfl,hA⟩:=hrel
      by_cases hlt3:k3<n3
      ·rcases HF2.out.o.at_ with z0|⟨ga,oa,ea,z1,z2,z3,z4⟩
       ·omega
       have c:=z4 k3 hlt3
       subst ea
       clear z1 z2 z3 z4
       cases hx:iL (outs.getD k3 0) n2
       ·have R:Hid (outs.all (iL · n2)=false):=m8 (by rw[HL3.out];exact hlt3) hx
        have hI:Hid (∀w,Calls Tryz.prog 58 #[.int .i64 (outs.getD k3 0),.int .i64 (n2:Int)] w λe w'=>e=.returned (.bool false)/\w'=w):=λw=>by
         have:=jx (outs.getD k3 0) n2 w
         rw[hx] at this
         exact this
        generalize outs.getD k3 0=y at c hI
        clear hx hA
        go_wp2_with ((go_at_call 58;refine(hI.out _).mono ?_;rintro e w2 ⟨rfl,rfl⟩))
        go_ret
        exact⟨by rw[R1.out,R2.out,R.out];rfl,HKW.out⟩
       ·have R:Hid _:=mu (p:=(iL · n2)) (by rw[HL3.out];exact hlt3) hA.out hx
        have hI:Hid (∀w,Calls Tryz.prog 58 #[.int .i64 (outs.getD k3 0),.int .i64 (n2:Int)] w λe w'=>e=.returned (.bool true)/\w'=w):=λw=>by
         have:=jx (outs.getD k3 0) n2 w
         rw[hx] at this
         exact this
        generalize outs.getD k3 0=y at c hI
        clear hx hA
        go_wp2_with ((go_at_call 58;refine(hI.out _).mono ?_;rintro e w2 ⟨rfl,rfl⟩))
        go_round
        case rel=>exact⟨k3+1,by omega,by go_num,R⟩
        case measure=>simp[intOf];omega
      ·have R4:Hid (outs.all (iL · n2)=true):=by
        have:=hA.out
        rw[List.take_of_length_le (by rw[HL3.out];omega)] at this
        exact this
       clear hA
       go_wp2
       go_ret
       exact⟨by rw[R1.out,R2.out,R4.out,<-R3.out];rfl,HKW.out⟩
theorem pB (w:World)(a1 a2 a3:Option Addr)(n1 c1 n2 c2 n3 c3:Nat)(h:¬(n1<=20/\n2<=2000/\n3<=50)):
  Calls Tryz.prog 27 #[ip a1 n1 c1 a2 n2 c2 a3 n3 c3] w λe w'=>e=.returned (.bool false)/\Kept 0 0 w w':=by
 by_cases h1:n1<=20
 ·by_cases h2:n2<=2000
  ·have h3:50<n3:=by omega
   clear h
   go_enter Tryz.func27,Tryz.ntmps27
   go_wp2
   go_ret
   exact⟨rfl,hU _ _ _ _⟩
  ·have h3:2000<n2:=by omega
   clear h h2
   go_enter Tryz.func27,Tryz.ntmps27
   go_wp2
   all_goals
    go_ret
    exact⟨rfl,hU _ _ _ _⟩
 ·have h3:20<n1:=by omega
  clear h h1
  go_enter Tryz.func27,Tryz.ntmps27
  go_wp2
  all_goals
   go_ret
   exact⟨rfl,hU _ _ _ _⟩
theorem mw (w:World)(a1 a2 a3:Option Addr)(n1 c1 n2 c2 n3 c3:Nat)(ins:List Int)(vs:List Vl)(outs:List Int)(f:GS w a1 n1 a2 n2 a3 n3 ins vs outs):
  Calls Tryz.prog 27 #[ip a1 n1 c1 a2 n2 c2 a3 n3 c3] w λe w'=>e=.returned (.bool (okG ins vs outs))/\Kept 0 0 w w':=by
 unfold okG
 rw[f.i.len,f.v.len,f.o.len]
 by_cases h:n1<=20/\n2<=2000/\n3<=50
 ·rw[decide_eq_true h,Bool.true_and]
  exact sF w a1 a2 a3 n1 c1 n2 c2 n3 c3 ins vs outs f h.1 h.2.1 h.2.2
 ·rw[decide_eq_false h,Bool.false_and]
  exact pB w a1 a2 a3 n1 c1 n2 c2 n3 c3 h
structure Chg (S:Nat->Prop)(w w':World):Prop where
 os:w'.os=w.os
 tape:w'.tape=w.tape
 output:w'.output=w.output
 size:w.heap.size<=w'.heap.size
 block:∀k,k<w.heap.size->¬S k->w'.heap[k]? =w.heap[k]?
theorem Chg.cell (h:Chg S w w'){p:Addr}(hp:p.block<w.heap.size)(hn:¬S p.block):w'.cell? p=w.cell? p:=World.cell?_of_block (w:=w) (h.block p.block hp hn)
theorem Chg.frozen (h:Chg S w w'){p:Addr}(hp:p.block<w.heap.size)(hn:¬S p.block):w'.frozen? p=w.frozen? p:=World.frozen?_of_block (w:=w) (h.block p.block hp hn)
theorem Kept.chg (h:Kept 0 0 w w'):Chg S w w':=⟨h.os,h.tape,h.output,h.size,λk hk _=>h.block k hk (by omega)⟩
theorem Chg.kept (k:Kept 0 0 w0 w)(h:Chg S w w')(hS:∀i,S i->w0.heap.size<=i):Kept 0 0 w0 w':=
 ⟨h.os.trans k.os,h.tape.trans k.tape,h.output.trans k.output,Nat.le_trans k.size h.size,λi hi _=>(h.block i (Nat.lt_of_lt_of_le hi k.size) (λc=>by have:=hS i c;omega)).trans (k.block i hi (by omega))⟩
def iN:List Vl->List Value
 |[]=>[]
 |v::r=>v.cells++iN r
theorem m9 (a b:List Vl):iN (a++b)=iN a++iN b:=by
 induction a with
 |nil=>rfl
 |cons x r ih=>simp[iN,ih]
theorem qb (v:Vl):iN [v]=v.cells:=by simp[iN]
theorem qc (a:List Vl):(iN a).length=a.length*6:=by
 induction a with
 |nil=>rfl
 |cons x r ih=>simp only[iN,List.length_append,ih,List.length_cons];simp only[Vl.cells,List.length_cons,List.length_nil];omega
theorem sG:∀(a:List Vl) (k j:Nat),k<a.length->j<6->(iN a)[k*6+j]? =(a.getD k Vl.zero).cells[j]?
 |[],k,j,hk,_=>by simp at hk
 |x::r,0,j,_,hj=>by
  have:(x::r).getD 0 Vl.zero=x:=rfl
  rw[this,iN,List.getElem?_append_left (by simp only[Vl.cells,List.length_cons,List.length_nil];omega),Nat.zero_mul,Nat.zero_add]
 |x::r,k+1,j,hk,hj=>by
  have:(x::r).getD (k+1) Vl.zero=r.getD k Vl.zero:=rfl
  rw[this,iN,List.getElem?_append_right (by simp only[Vl.cells,List.length_cons,List.length_nil];omega)]
  have e:(k+1)*6+j-x.cells.length=k*6+j:=by simp only[Vl.cells,List.length_cons,List.length_nil];omega
  rw[e]
  exact sG r k j (by simpa using hk) hj
theorem kU {W:World}{v:Value}{vs:List Vl}(h:W.ownsRow base 31 6 v n (iN vs))(hn:0<n)(hl:vs.length=n):
  ∃g cap,v=.slice (some ⟨g,0,none⟩) n cap/\base<=g/\g<W.heap.size/\n<=cap/\VA W g n vs:=by
 rcases h.2 with⟨_,c⟩|⟨g,cap,cur,rfl,b1,b2,b3,_,b5,b6⟩
 ·omega
 ·have hg:g<W.heap.size:=by
   rcases Nat.lt_or_ge g W.heap.size with c|c
   ·exact c
   ·rw[Array.getElem?_eq_none c] at b2;cases b2
  have key:∀k j,k<n->j<6->W.cell? ⟨g,k*6+j,none⟩=(vs.getD k Vl.zero).cells[j]?:=λk j hk hj=>by
   rw[cell_of_row W g _ cur _ _ b2,<-Array.getElem?_toList]
   have:(cur.toList.take (n*6))[k*6+j]? =(iN vs)[k*6+j]?:=by rw[b6]
   rw[List.getElem?_take_of_lt (by omega)] at this
   rw[this]
   exact sG vs k j (by omega) hj
  refine⟨g,cap,rfl,b1,hg,b3,hl,hg,λk hk=>?_,λo=>frozen_of_row W g o _ _ b2⟩
  exact⟨key k 0 hk (by omega),key k 1 hk (by omega),key k 2 hk (by omega),key k 3 hk (by omega),key k 4 hk (by omega),key k 5 hk (by omega)⟩
structure BS (w:World)(P:Nat)(u1 u3:Value)(vs:List Vl)(c:Int)(base:Nat)(R:Option Nat)(vv:Value):Prop where
 lt:P<w.heap.size
 free:∀o,w.frozen? ⟨P,o,none⟩=false
 c0:w.cell? ⟨P,0,none⟩=some u1
 c1:w.cell? ⟨P,1,none⟩=some vv
 c2:w.cell? ⟨P,2,none⟩=some u3
 c3:w.cell? ⟨P,3,none⟩=some (.int .i64 c)
 own:w.ownsRow base 31 6 vv vs.length (iN vs)
 row:vv.ownBlock=R
 ne:R≠some P
 sz:base<=w.heap.size
structure StQ (Q:Nat->Prop)(R:Option Nat)(w:World)(R':Option Nat)(w':World):Prop where
 chg:Chg (λi=>Q i\/R=some i) w w'
 row:R'=R\/∃r,R'=some r/\w.heap.size<=r
theorem StQ.refl (Q:Nat->Prop)(R:Option Nat)(w:World):StQ Q R w R w:=⟨⟨rfl,rfl,rfl,Nat.le_refl _,λ_ _ _=>rfl⟩,.inl rfl⟩
theorem StQ.trans {Q:Nat->Prop}{R'':Option Nat}(a:StQ Q R w R' w')(b:StQ Q R' w' R'' w''):StQ Q R w R'' w'' where
 chg:=⟨b.chg.os.trans a.chg.os,b.chg.tape.trans a.chg.tape,b.chg.output.trans a.chg.output,Nat.le_trans a.chg.size b.chg.size,λk hk hn=>by
  rw[b.chg.block k (Nat.lt_of_lt_of_le hk a.chg.size) ?_]
  ·exact a.chg.block k hk hn
  ·rintro (c|c)
   ·exact hn (.inl c)
   ·rcases a.row with e|⟨r,e,hr⟩
    ·exact hn (.inr (by rw[<-e];exact c))
    ·rw[e] at c
     cases c
     omega⟩
 row:=by
  rcases b.row with e|⟨r,e,hr⟩
  ·rw[e];exact a.row
  ·exact .inr ⟨r,e,Nat.le_trans a.chg.size hr⟩
abbrev Stp (P:Nat)(R:Option Nat)(w:World)(R':Option Nat)(w':World):Prop:=StQ (λi=>i=P) R w R' w'
theorem ii {size:Nat}{v:Value}{xs:List Value}{W:World}(h:W.ownsRow base e size v n xs)(hk:v.ownBlock=some k):base<=k/\k<W.heap.size:=by
 rcases h.2 with⟨rfl,_⟩|⟨g,cap,cur,rfl,b1,b2,_⟩
 ·simp[Value.ownBlock] at hk
 ·have e:g=k:=by simpa[Value.ownBlock] using hk
  subst e
  refine⟨b1,?_⟩
  rcases Nat.lt_or_ge g W.heap.size with c|c
  ·exact c
  ·rw[Array.getElem?_eq_none c] at b2;cases b2
theorem lr (w:World)(v:Vl):At (w.alloc (ij v.op v.len v.a v.b v.c v.k)) w.heap.size 0 v:=by
 refine⟨?_,?_,?_,?_,?_,?_⟩
 all_goals first|(go_simp;done)|(simp;done)
theorem wG {size:Nat}{v:Value}{xs:List Value}{W:World}(h:W.ownsRow base e size v n xs)(m:Nat)(o:Obj):((W.alloc o).drewN m).ownsRow base e size v n xs:=h.alloc o
theorem xP (w:World)(o:Obj):(w.alloc o).heap[w.heap.size]? =some o:=by
 unfold World.alloc
 simp
theorem vI (w:World)(v:Vl)(m:Nat):∀j u,v.cells[j]? =some u->((w.alloc (.cells #[.int .i64 v.op,.int .i64 v.len,.int .i64 v.a,.int .i64 v.b,.int .i64 v.c,.float .f64 v.k] 31)).drewN m).cell? ((⟨w.heap.size,0,none⟩:Addr).add j)=some u:=λj u hu=>
 World.news_of_block (w:=w.alloc (.cells #[.int .i64 v.op,.int .i64 v.len,.int .i64 v.a,.int .i64 v.b,.int .i64 v.c,.float .f64 v.k] 31)) (t:=31) (fr:=(0,0)) (cs:=#[.int .i64 v.op,.int .i64 v.len,.int .i64 v.a,.int .i64 v.b,.int .i64 v.c,.float .f64 v.k]) (xP _ _) j u hu
theorem mV {o:Obj}{row:Option Nat}(hg:((w1.alloc o).drewN m).grownBy w9 row){b:Nat}(hb:b<w1.heap.size)(hr:row≠some b)(hc:w1.cell? ⟨b,off,none⟩=some u):w9.cell? ⟨b,off,none⟩=some u:=by
 have hb':b<((w1.alloc o).drewN m).heap.size:=by show b<(w1.alloc o).heap.size;simp;omega
 rw[hg.cell_far ⟨b,off,none⟩ hb' (λc=>hr c.symm)]
 exact jq (hU 0 0 w1 o) hb hc
theorem uO {o:Obj}{row:Option Nat}(hg:((w1.alloc o).drewN m).grownBy w9 row){b:Nat}(hb:b<w1.heap.size)(hr:row≠some b)(hc:w1.frozen? ⟨b,off,none⟩=false):w9.frozen? ⟨b,off,none⟩=false:=by
 have hb':b<((w1.alloc o).drewN m).heap.size:=by show b<(w1.alloc o).heap.size;simp;omega
 rw[hg.frozen_far ⟨b,off,none⟩ hb' (λc=>hr c.symm)]
 show(w1.alloc o).frozen? _=_
 rw[(hU 0 0 w1 o).frozen (p:=⟨b,off,none⟩) hb (by omega)]
 exact hc
theorem ir {size o:Nat}{v:Value}{xs:List Value}{W:World}(h:W.ownsRow base e size v n xs)(hP:v.ownBlock≠some P):(W.setCell ⟨P,o,none⟩ u).ownsRow base e size v n xs:=by
 refine⟨h.1,h.2.imp id ?_⟩
 rintro⟨g,cap,cur,e1,b1,b2,b3⟩
 refine⟨g,cap,cur,e1,b1,?_,b3⟩
 rw[Below.heap_setCell W ⟨P,o,none⟩ u g (λc=>hP (by rw[e1,c];rfl))]
 exact b2
theorem BS.next {vs:List Vl}{v:Vl}{o o2:Obj}{g9 cap9:Nat}(h:BS w P u1 u3 vs c base R vv)
  (hown9:w9.ownsRow base 31 6 (.slice (some ⟨g9,0,none⟩) (vs.length+1) cap9) (vs.length+1) (iN vs++v.cells)) (hg9:(((w.alloc o).alloc o2).drewN m).grownBy w9 vv.ownBlock) (hat:vv.ownBlock=some g9\/g9=(w.alloc o).heap.size+1) (c':Int) (hc':c'=c+v.len):
  ∃R' vv',BS ((w9.setCell ⟨P,1,none⟩ (.slice (some ⟨g9,0,none⟩) (vs.length+1) cap9)).setCell ⟨P,3,none⟩ (.int .i64 c')) P u1 u3 (vs++[v]) (c+v.len) base R' vv'/\Stp P R w R' ((w9.setCell ⟨P,1,none⟩ (.slice (some ⟨g9,0,none⟩) (vs.length+1) cap9)).setCell ⟨P,3,none⟩ (.int .i64 c')):=by
 subst hc'
 have hlt:=h.lt
 have hs:(w.alloc o).heap.size=w.heap.size+1:=by simp
 have k1:=hU 0 0 w o
 have hP1:P<(w.alloc o).heap.size:=by omega
 have hRP:vv.ownBlock≠some P:=by rw[h.row];exact h.ne
 have gP:g9≠P:=by
  rcases hat with e|e
  ·intro c;rw[c] at e;exact hRP e
  ·omega
 have q0:=mV hg9 hP1 hRP (jq k1 hlt h.c0)
 have q1:=mV hg9 hP1 hRP (jq k1 hlt h.c1)
 have q2:=mV hg9 hP1 hRP (jq k1 hlt h.c2)
 have q3:=mV hg9 hP1 hRP (jq k1 hlt h.c3)
 have hsz9:w.heap.size+2<=w9.heap.size:=by
  have:=hg9.size
  have e:(((w.alloc o).alloc o2).drewN m).heap.size=w.heap.size+2:=by show((w.alloc o).alloc o2).heap.size=_;simp
  omega
 refine⟨some g9,.slice (some ⟨g9,0,none⟩) (vs.length+1) cap9,?_,?_,?_⟩
 ·refine⟨by simp;omega,λb=>?_,?_,?_,?_,?_,?_,rfl,λe=>gP (by cases e;rfl),by simp;have:=h.sz;omega⟩
  ·have hf:=uO (off:=b) hg9 hP1 hRP (by rw[k1.frozen (p:=⟨P,b,none⟩) hlt (by omega)];exact h.free b)
   simp[hf]
  ·rw[iB _ _ _ _ _ _ (.inr (by omega)),iB _ _ _ _ _ _ (.inr (by omega))];exact q0
  ·rw[iB _ _ _ _ _ _ (.inr (by omega))];exact jI _ _ _ _ _ q1
  ·rw[iB _ _ _ _ _ _ (.inr (by omega)),iB _ _ _ _ _ _ (.inr (by omega))];exact q2
  ·exact jI _ _ _ _ _ (by rw[iB _ _ _ _ _ _ (.inr (by omega))];exact q3)
  ·rw[List.length_append,List.length_singleton,m9,qb]
   have nP:(Value.slice (some ⟨g9,0,none⟩) (vs.length+1) cap9).ownBlock≠some P:=λe=>gP (by simpa[Value.ownBlock] using e)
   exact ir (ir hown9 nP) nP
 ·refine⟨hg9.os,hg9.tape,hg9.output,by simp;omega,λk hk hn=>?_⟩
  have hkP:k≠P:=λe=>hn (.inl e)
  have hkR:some k≠vv.ownBlock:=λe=>hn (.inr (by rw[<-h.row];exact e.symm))
  rw[Below.heap_setCell _ ⟨P,3,none⟩ _ k hkP,Below.heap_setCell _ ⟨P,1,none⟩ _ k hkP,hg9.block k (by show k<((w.alloc o).alloc o2).heap.size;simp;omega) hkR]
  show((w.alloc o).alloc o2).heap[k]? =_
  rw[Below.heap_alloc _ _ k (by omega),Below.heap_alloc _ _ k hk]
 ·rcases hat with e|e
  ·exact .inl (by rw[<-e];exact h.row)
  ·exact .inr ⟨g9,rfl,by omega⟩
theorem Af (v:Vl):∀u∈v.cells,u.oneCell'=true:=λu hu=>by
 simp only[Vl.cells,List.mem_cons,List.not_mem_nil,or_false] at hu
 rcases hu with rfl|rfl|rfl|rfl|rfl|rfl<;>rfl
theorem Cy (w:World)(P:Nat)(u1 u3:Value)(vs:List Vl)(c:Int)(base:Nat)(R:Option Nat)(vv:Value)(v:Vl)(h:BS w P u1 u3 vs c base R vv)(hn:vs.length<=1000000)(hc0:-1000000000<=c)(hc1:c<=1000000000)(hl0:-1000000000<=v.len)(hl1:v.len<=1000000000):
  Calls Tryz.prog 112 #[.pointer (some ⟨P,0,none⟩),v.agg] w λe w'=>e=.returned (.int .i64 (vs.length:Nat))/\(∃R' vv',BS w' P u1 u3 (vs++[v]) (c+v.len) base R' vv'/\Stp P R w R' w'):=by
 obtain⟨i0,hi,hz0,hz1,hz2⟩:=info_parts tP
 have HB:Hid _:=h
 have k1:=hU 0 0 w (ij v.op v.len v.a v.b v.c v.k)
 have c1:=jq k1 h.lt h.c1
 have hown:=h.own.alloc (ij v.op v.len v.a v.b v.c v.k)
 have hz:=h.sz
 have c3:=jq k1 h.lt h.c3
 have fz3:=h.free 3
 rw[<-k1.frozen (p:=⟨P,3,none⟩) h.lt (by omega)] at fz3
 have fz:=h.free 1
 rw[<-k1.frozen (p:=⟨P,1,none⟩) h.lt (by omega)] at fz
 have hlt:=h.lt
 have hv:=lr w v
 have HV:Hid _:=hv
 obtain⟨v0,v1,v2,v3,v4,v5⟩:=hv
 have hsz:(w.alloc (ij v.op v.len v.a v.b v.c v.k)).heap.size=w.heap.size+1:=by simp
 have HR:Hid (vv.ownBlock≠some P/\vv.ownBlock≠some w.heap.size):=⟨by rw[h.row];exact h.ne,λe=>by have:=(ii h.own e).2;omega⟩
 have hwr:IntKind.i64.wrap (c+v.len)=c+v.len:=by rw[IntKind.wrap_i64];omega
 clear h k1
 go_enter Tryz.func112,Tryz.ntmps112
 go_wp2_with fail
 generalize hw1:w.alloc (ij v.op v.len v.a v.b v.c v.k)=w1 at c1 hown v0 v1 v2 v3 v4 v5 HV hsz fz fz3 c3 ⊢
 have HSZ:Hid _:=hsz
 have hb1:base<=w1.heap.size:=by omega
 have hP1:P<w1.heap.size:=by omega
 have hV1:w.heap.size<w1.heap.size:=by omega
 clear hsz
 go_region_law
  ((refine step_append_lies _ rfl (.tmp 10) (.tmp 12) 24 rfl base 31 i0 (jA 0 0 0 0 0 0) 6 48 Tryz.underlying24 hi hz0 hz1 hz2 rfl (by decide) _ _ (iN vs) (by simp[Act.eval]) (wG hown 1 _) ⟨w1.heap.size,0,none⟩ 1 1 v.cells (by simp[Act.eval]) rfl (vI _ _ _) (Af v) (by decide) (by unfold maxLen;omega) (by omega) (by simp;omega) _ rfl ?_;intro g9 cap9 w9 hown9 hg9 hat9 hlt9;have s0:=mV hg9 hP1 HR.out.1 c1;have f0:=uO hg9 hP1 HR.out.1 fz;have s1:=mV hg9 hV1 HR.out.2 v0;have s2:=mV hg9 hV1 HR.out.2 v1;have s3:=mV hg9 hV1 HR.out.2 v2;have s4:=mV hg9 hV1 HR.out.2 v3;have s5:=mV hg9 hV1 HR.out.2 v4;have s6:=mV hg9 hV1 HR.out.2 v5))
 all_goals
  have n3:=mV hg9 hP1 HR.out.1 c3
  have f3:=uO hg9 hP1 HR.out.1 fz3
  rw[<-hw1] at hg9 hat9
  have hat':vv.ownBlock=some g9\/g9=(w.alloc (ij v.op v.len v.a v.b v.c v.k)).heap.size+1:=hat9.imp id (λe=>by rw[e];show((w.alloc _).alloc _).heap.size=_;simp)
  have R0:Hid _:=BS.next (v:=v) HB.out hown9 hg9 hat' (c+v.len) rfl
  have m3:(w9.setCell ⟨P,1,none⟩ (.slice (some ⟨g9,0,none⟩) (vs.length+1) cap9)).cell? ⟨P,3,none⟩=some (.int .i64 c):=by rw[iB _ _ _ _ _ _ (.inr (by omega))];exact n3
  have m1:(w9.setCell ⟨P,1,none⟩ (.slice (some ⟨g9,0,none⟩) (vs.length+1) cap9)).cell? ⟨P,1,none⟩=some (.slice (some ⟨g9,0,none⟩) (vs.length+1) cap9):=jI _ _ _ _ _ s0
  have mv:(w9.setCell ⟨P,1,none⟩ (.slice (some ⟨g9,0,none⟩) (vs.length+1) cap9)).cell? ⟨w.heap.size,1,none⟩=some (.int .i64 v.len):=by rw[iB _ _ _ _ _ _ (.inl (by omega))];exact s2
  have mf:(w9.setCell ⟨P,1,none⟩ (.slice (some ⟨g9,0,none⟩) (vs.length+1) cap9)).frozen? ⟨P,3,none⟩=false:=by simp[f3]
  clear hown9 hg9 hat9 hat' hown HB HV hw1 s0 s1 s2 s3 s4 s5 s6 v0 v1 v2 v3 v4 v5 n3 f3 f0 fz fz3 c1 c3
  generalize w9.setCell ⟨P,1,none⟩ (.slice (some ⟨g9,0,none⟩) (vs.length+1) cap9)=w10 at m3 m1 mv mf R0
  go_wp2_with fail
  go_region_law (fail)
  all_goals
   have m1':(w10.setCell ⟨P,3,none⟩ (.int .i64 (c+v.len))).cell? ⟨P,1,none⟩=some (.slice (some ⟨g9,0,none⟩) (vs.length+1) cap9):=by rw[iB _ _ _ _ _ _ (.inr (by omega))];exact m1
   generalize w10.setCell ⟨P,3,none⟩ (.int .i64 (c+v.len))=w11 at m1' R0
   clear m1 m3 mv mf
   go_wp2
   go_ret
   obtain⟨R',vv',r1,r2⟩:=R0.out
   exact⟨by simp,R',vv',⟨r1.lt,r1.free,r1.c0,r1.c1,r1.c2,r1.c3,r1.own,r1.row,r1.ne,r1.sz⟩,⟨⟨r2.chg.os,r2.chg.tape,r2.chg.output,r2.chg.size,r2.chg.block⟩,r2.row⟩⟩
def IZ (w:World)(g:Nat)(a:Option Addr)(n:Nat)(xs:List Int):Prop:=n=0\/(a=some ⟨g,0,none⟩/\IBk w g n xs)
def VZ (w:World)(g:Nat)(a:Option Addr)(n:Nat)(vs:List Vl):Prop:=n=0\/(a=some ⟨g,0,none⟩/\VA w g n vs)
structure OG (w:World)(g1 g2 g3:Nat)(a1:Option Addr)(n1:Nat)(a2:Option Addr)(n2:Nat)(a3:Option Addr)(n3:Nat)(ins:List Int)(vs:List Vl)(outs:List Int):Prop where
 i:IZ w g1 a1 n1 ins
 v:VZ w g2 a2 n2 vs
 o:IZ w g3 a3 n3 outs
 d12:g1≠g2
 d13:g1≠g3
 d23:g2≠g3
theorem Kept.chg1 (k:Kept g (g+1) w w')(h:S g):Chg S w w':=
 ⟨k.os,k.tape,k.output,k.size,λi hi hn=>k.block i hi λc=>hn ((show g=i by omega) ▸ h)⟩
theorem Chg.andThen {a b c:World}(h:Chg S a b)(k:Chg S b c):Chg S a c:=
 ⟨k.os.trans h.os,k.tape.trans h.tape,k.output.trans h.output,Nat.le_trans h.size k.size,λi hi hn=>(k.block i (Nat.lt_of_lt_of_le hi h.size) hn).trans (h.block i hi hn)⟩
theorem iC {size:Nat}{v:Value}{xs:List Value}{W:World}(h:W.ownsRow base e size v n xs)(k:Kept 0 0 W W'):W'.ownsRow base e size v n xs:=by
 refine⟨h.1,h.2.imp id ?_⟩
 rintro⟨g,cap,cur,e1,b1,b2,b3⟩
 refine⟨g,cap,cur,e1,b1,?_,b3⟩
 have hg:g<W.heap.size:=by
  rcases Nat.lt_or_ge g W.heap.size with c|c
  ·exact c
  ·rw[Array.getElem?_eq_none c] at b2;cases b2
 rw[k.block g hg (by omega)]
 exact b2
theorem EJ (h:IR w g xs)(hl:xs.length=n):IS w 0 w.heap.size (some ⟨g,0,none⟩) n xs:=by
 subst hl;exact h.is
theorem B0 (hx:xs.length=n)(hc:∀k,k<n->w.cell? ⟨g,k,none⟩=some (.int .i64 (xs.getD k 0))):
  ∀j u,(xs.map (Value.int .i64))[j]? =some u->w.cell? ((⟨g,0,none⟩:Addr).add j)=some u:=λj u hu=>by
 have hj:j<n:=by
  rcases Nat.lt_or_ge j n with c|c
  ·exact c
  ·rw[List.getElem?_eq_none (by simp;omega)] at hu;cases hu
 have h1:=hc j hj
 have e:(⟨g,0,none⟩:Addr).add j=⟨g,j,none⟩:=by
  unfold Addr.add
  split
  ·rename_i h0;rw[h0]
  ·simp
 rw[e,h1]
 rw[List.getElem?_map,List.getElem?_eq_getElem (by omega:j<xs.length)] at hu
 simp only[Option.map_some] at hu
 rw[<-hu,List.getD_eq_getElem?_getD,List.getElem?_eq_getElem (by omega:j<xs.length)];rfl
theorem B1 {vs:List Vl}(hx:vs.length=n)(hc:∀k,k<n->At w g (k*6) (vs.getD k Vl.zero)):
  ∀j u,(iN vs)[j]? =some u->w.cell? ((⟨g,0,none⟩:Addr).add j)=some u:=λj u hu=>by
 have hj:j<n*6:=by
  rcases Nat.lt_or_ge j (n*6) with c|c
  ·exact c
  ·rw[List.getElem?_eq_none (by rw[qc];omega)] at hu;cases hu
 have e:(⟨g,0,none⟩:Addr).add j=⟨g,j,none⟩:=by
  unfold Addr.add
  split
  ·rename_i h0;rw[h0]
  ·simp
 have ej:j=j/6*6+j%6:=by omega
 have hk:j/6<n:=by omega
 rw[ej,sG vs (j/6) (j%6) (by omega) (by omega)] at hu
 rw[e,ej]
 obtain⟨c0,c1,c2,c3,c4,c5⟩:=hc (j/6) hk
 have:j%6=0\/j%6=1\/j%6=2\/j%6=3\/j%6=4\/j%6=5:=by omega
 rcases this with h|h|h|h|h|h
 all_goals
  rw[h] at hu ⊢
  simp[Vl.cells] at hu
  subst hu
 ·rw[Nat.add_zero];exact c0
 ·exact c1
 ·exact c2
 ·exact c3
 ·exact c4
 ·exact c5
theorem md {row:Option Nat}(h:w.grownBy w' row)(hr:∀k,row=some k->base<=k)(k:Kept 0 0 w0 w)(hb:w0.heap.size<=base):Kept 0 0 w0 w':=
 ⟨h.os.trans k.os,h.tape.trans k.tape,h.output.trans k.output,Nat.le_trans k.size h.size,λi hi _=>by
  rw[h.block i (Nat.lt_of_lt_of_le hi k.size) (λc=>by have:=hr i c.symm;omega)]
  exact k.block i hi (by omega)⟩
theorem Cz:∀(vs:List Vl),∀u∈iN vs,u.oneCell'=true
 |[],_,h=>by cases h
 |v::r,u,h=>by
  rcases List.mem_append.1 h with c|c
  ·exact Af v u c
  ·exact Cz r u c
theorem tQ {size:Nat}{v:Value}{xs:List Value}{W:World}(h:W.ownsRow base e size v n xs)(hv:v≠.slice none 0 0):∃g cap,v=.slice (some ⟨g,0,none⟩) n cap/\base<=g/\g<W.heap.size:=by
 rcases h.2 with⟨e,_⟩|⟨g,cap,cur,e,b1,b2,_⟩
 ·exact absurd e hv
 ·refine⟨g,cap,e,b1,?_⟩
  rcases Nat.lt_or_ge g W.heap.size with c|c
  ·exact c
  ·rw[Array.getElem?_eq_none c] at b2;cases b2
theorem xQ (w:World)(g n c:Nat)(xs:List Int)(hn2:n<=1000000)(h:IE w g xs)(hx:xs.length=n):
  Calls Tryz.prog 80 #[.slice (some ⟨g,0,none⟩) n c] w λe w'=>∃G cap,e=.returned (.slice (some ⟨G,0,none⟩) n cap)/\w.heap.size<=G/\G<w'.heap.size/\w'.ownsRow w.heap.size 3 1 (.slice (some ⟨G,0,none⟩) n cap) n (xs.map (Value.int .i64))/\Kept 0 0 w w':=by
 obtain⟨i0,hi,hz0,hz1,hz2⟩:=info_parts ry
 have heq:(binOp .eql 23 (.slice (some ⟨g,0,none⟩) n c) (.slice none 0 0)).run Tryz.prog w=.ok (.bool false) w:=by
  simp only[binOp]
  simp[run_equal_slice_nil w 23 3 (some ⟨g,0,none⟩) n c Tryz.underlying23]
 have ka:=hU 0 0 w (.cells #[] 3)
 have hc:∀k,k<n->w.cell? ⟨g,k,none⟩=some (.int .i64 (xs.getD k 0)):=λk hk=>h.cell k (by omega)
 have HN:Hid _:=B0 (w:=w.alloc (.cells #[] 3)) (g:=g) hx (λk hk=>jq ka h.lt (hc k hk))
 have HO:Hid _:=World.ownsRow_made (base:=w.heap.size) (e:=3) (size:=1) w #[] 0 (Nat.le_refl _) (by unfold maxLen;omega) rfl
 have HKA:Hid _:=ka
 have HX:Hid (xs.length=n):=hx
 clear hc hx ka h
 go_enter Tryz.func80,Tryz.ntmps80
 go_wp2_with (first|(at_builtin;refine wpList_append_own _ rfl _ _ 23 rfl w.heap.size 3 i0 (.int .i64 0) 1 8 Tryz.underlying23 hi hz0 hz1 hz2 rfl (by decide) _ _ _ rfl HO.out ⟨g,0,none⟩ n c (xs.map (Value.int .i64)) rfl ?c0 HN.out ?c2 ?c3 ?c4 ?c5 ?_))
 case c0=>exact HX.out
 case c2=>intro u hu;rfl
 case c3=>unfold maxLen;omega
 case c4=>omega
 intro v' w9 hown9 hg9 hnil
 obtain⟨G,cap,rfl,b1,b2⟩:=tQ hown9 hnil
 have R:Hid _:=md (base:=w.heap.size) hg9 (λk hk=>by have:w.heap.size=k:=(by simpa[Value.ownBlock] using hk);omega) HKA.out (Nat.le_refl _)
 have R2:Hid _:=hown9
 clear hown9 hg9 hnil
 go_wp2
 go_ret
 exact⟨G,cap,rfl,b1,b2,R2.out,R.out⟩
theorem CA (w:World)(g n c:Nat)(vs:List Vl)(hn2:n<=1000000)(h:VA w g n vs):
  Calls Tryz.prog 81 #[.slice (some ⟨g,0,none⟩) n c] w λe w'=>∃G cap,e=.returned (.slice (some ⟨G,0,none⟩) n cap)/\w.heap.size<=G/\G<w'.heap.size/\w'.ownsRow w.heap.size 31 6 (.slice (some ⟨G,0,none⟩) n cap) n (iN vs)/\Kept 0 0 w w':=by
 obtain⟨i0,hi,hz0,hz1,hz2⟩:=info_parts tP
 have heq:(binOp .eql 24 (.slice (some ⟨g,0,none⟩) n c) (.slice none 0 0)).run Tryz.prog w=.ok (.bool false) w:=by
  simp only[binOp]
  simp[run_equal_slice_nil w 24 31 (some ⟨g,0,none⟩) n c Tryz.underlying24]
 have ka:=hU 0 0 w (.cells #[] 31)
 have HN:Hid _:=B1 (w:=w.alloc (.cells #[] 31)) (g:=g) h.len (λk hk=>(h.at_ k hk).keep h.lt ka (.inr (.inr (Nat.le_refl _))))
 have HO:Hid _:=World.ownsRow_made (base:=w.heap.size) (e:=31) (size:=6) w #[] 0 (Nat.le_refl _) (by unfold maxLen;omega) rfl
 have HKA:Hid _:=ka
 have HX:Hid (vs.length=n):=h.len
 clear ka h
 go_enter Tryz.func81,Tryz.ntmps81
 go_wp2_with (first|(at_builtin;refine wpList_append_own _ rfl _ _ 24 rfl w.heap.size 31 i0 (jA 0 0 0 0 0 0) 6 48 Tryz.underlying24 hi hz0 hz1 hz2 rfl (by decide) _ _ _ rfl HO.out ⟨g,0,none⟩ n c (iN vs) rfl ?c0 HN.out ?c2 ?c3 ?c4 ?c5 ?_))
 case c0=>rw[qc,HX.out]
 case c2=>exact Cz vs
 case c3=>unfold maxLen;omega
 case c4=>omega
 intro v' w9 hown9 hg9 hnil
 obtain⟨G,cap,rfl,b1,b2⟩:=tQ hown9 hnil
 have R:Hid _:=md (base:=w.heap.size) hg9 (λk hk=>by have:w.heap.size=k:=(by simpa[Value.ownBlock] using hk);omega) HKA.out (Nat.le_refl _)
 have R2:Hid _:=hown9
 clear hown9 hg9 hnil
 go_wp2
 go_ret
 exact⟨G,cap,rfl,b1,b2,R2.out,R.out⟩
theorem rz {q:Nat}(h:q<xs.length):xs.getD q 0∈xs:=by
 rw[List.getD_eq_getElem?_getD,List.getElem?_eq_getElem h]
 exact List.getElem_mem _
theorem xR (w:World)(g m cap:Nat)(n:Int)(xs:List Int)(hx:xs.length=m)(hm:m<=1000)(hc:∀k,k<m->w.cell? ⟨g,k,none⟩=some (.int .i64 (xs.getD k 0))):
  Calls Tryz.prog 28 #[.int .i64 n,.slice (some ⟨g,0,none⟩) m cap] w λe w'=>e=.returned (.bool (xs.all (iL · n)))/\w=w':=by
 have HC:Hid _:=hc
 have HX:Hid (xs.length=m):=hx
 clear hc hx
 go_enter Tryz.func28,Tryz.ntmps28
 go_wp2_with fail
 go_loop [9] (λi=>∃k:Nat,k<=m/\i=.int .i64 k/\Hid ((xs.take k).all (iL · n)=true)) (λi=>m-(intOf i).toNat)
 case atStart=>exact⟨0,Nat.zero_le _,rfl,rfl⟩
 case round=>
  obtain⟨k,hk,rfl,hA⟩:=hrel
  by_cases hlt:k<m
  ·have c:=HC.out k hlt
   cases t:iL (xs.getD k 0) n
   ·have R:Hid (xs.all (iL · n)=false):=by
     show _=_
     rw[List.all_eq_false]
     exact⟨xs.getD k 0,rz (by rw[HX.out];exact hlt),by show ¬iL _ _=true;rw[t];decide⟩
    have HI:Hid _:=jx (xs.getD k 0) n w
    rw[t] at HI
    generalize xs.getD k 0=x at c HI
    clear t
    go_wp2_with fail
    refine Calls.mono HI.out ?_
    rintro e w2 ⟨rfl,hw⟩
    have R3:Hid (w=w2):=hw.symm
    clear hw
    go_wp2
    go_ret
    exact⟨by rw[R.out];rfl,R3.out⟩
   ·have R:Hid ((xs.take (k+1)).all (iL · n)=true):=by
     show _=_
     rw[List.take_succ_eq_append_getElem (by rw[HX.out];exact hlt),List.all_append,hA.out]
     rw[List.getD_eq_getElem?_getD,List.getElem?_eq_getElem (by rw[HX.out];exact hlt)] at t
     simpa using t
    have HI:Hid _:=jx (xs.getD k 0) n w
    rw[t] at HI
    generalize xs.getD k 0=x at c HI
    clear t
    go_wp2_with fail
    refine Calls.mono HI.out ?_
    rintro e w2 ⟨rfl,rfl⟩
    go_wp2
    go_round
    case rel=>exact⟨k+1,by omega,by go_num,R⟩
    case measure=>simp[intOf];omega
  ·obtain rfl:k=m:=by omega
   have R:Hid (xs.all (iL · n)=true):=by
    have:=hA.out
    rw[List.take_of_length_le (by rw[HX.out];omega)] at this
    exact this
   clear hA
   go_wp2
   go_ret
   exact⟨by rw[R.out];rfl,rfl⟩
theorem jP {base' size:Nat}{v:Value}{xs:List Value}{W:World}(h:W.ownsRow base e size v n xs)(hb:base'<=base):W.ownsRow base' e size v n xs:=
 ⟨h.1,h.2.imp id λ⟨g,cap,cur,e1,b1,b2⟩=>⟨g,cap,cur,e1,Nat.le_trans hb b1,b2⟩⟩
theorem Kept.drew {hi:Nat}(h:Kept lo hi w w'):Kept lo hi w w'.drew:=⟨h.os,h.tape,h.output,h.size,h.block⟩
theorem iR {size l:Nat}{v:Value}{xs:List Value}{W:World}(o:W.ownsRow base e size v n xs)(k:Kept l h W W')(hd:∀g,v.ownBlock=some g->g<l\/h<=g):W'.ownsRow base e size v n xs:=by
 refine⟨o.1,o.2.imp id ?_⟩
 rintro⟨g,cap,cur,e1,b1,b2,b3⟩
 refine⟨g,cap,cur,e1,b1,?_,b3⟩
 have hg:g<W.heap.size:=by
  rcases Nat.lt_or_ge g W.heap.size with c|c
  ·exact c
  ·rw[Array.getElem?_eq_none c] at b2;cases b2
 have:=hd g (by rw[e1];rfl)
 rw[k.block g hg (by omega)]
 exact b2
abbrev OI (w:World)(base G n cap:Nat)(xs:List Int):Prop:=w.ownsRow base 3 1 (.slice (some ⟨G,0,none⟩) n cap) n (xs.map (Value.int .i64))
abbrev oF:Value:=.agg #[.slice none 0 0,.slice none 0 0,.slice none 0 0]
abbrev iw:Obj:=.cells #[.slice none 0 0,.slice none 0 0,.slice none 0 0] 26
structure RB (W:World)(p:Nat)(b0 b1 b2:Value):Prop where
 sz:p<W.heap.size
 q0:W.cell? ⟨p,0,none⟩=some b0
 q1:W.cell? ⟨p,1,none⟩=some b1
 q2:W.cell? ⟨p,2,none⟩=some b2
 f0:W.frozen? ⟨p,0,none⟩=false
 f1:W.frozen? ⟨p,1,none⟩=false
 f2:W.frozen? ⟨p,2,none⟩=false
theorem RB.keep {W:World}(t:RB W p b0 b1 b2)(k:Kept 0 0 W W'):RB W' p b0 b1 b2:=
 ⟨Nat.lt_of_lt_of_le t.sz k.size,jq k t.sz t.q0,jq k t.sz t.q1,jq k t.sz t.q2,by rw[k.frozen (p:=⟨p,0,none⟩) t.sz (by omega)];exact t.f0,by rw[k.frozen (p:=⟨p,1,none⟩) t.sz (by omega)];exact t.f1,by rw[k.frozen (p:=⟨p,2,none⟩) t.sz (by omega)];exact t.f2⟩
theorem i9 (w:World):RB (w.alloc iw) w.heap.size (.slice none 0 0) (.slice none 0 0) (.slice none 0 0):=by
 refine⟨?_,?_,?_,?_,?_,?_,?_⟩
 all_goals first|(go_simp;done)|(simp;done)
theorem iy (w:World)(g:Nat)(a b c:Value)(h0:w.cell? ⟨g,0,none⟩=some a)(h1:w.cell? ⟨g,1,none⟩=some b)(h2:w.cell? ⟨g,2,none⟩=some c)(x y z:Value):
  (((w.setCell ⟨g,0,none⟩ x).setCell ⟨g,1,none⟩ y).setCell ⟨g,2,none⟩ z).cell? ⟨g,0,none⟩=some x/\(((w.setCell ⟨g,0,none⟩ x).setCell ⟨g,1,none⟩ y).setCell ⟨g,2,none⟩ z).cell? ⟨g,1,none⟩=some y/\(((w.setCell ⟨g,0,none⟩ x).setCell ⟨g,1,none⟩ y).setCell ⟨g,2,none⟩ z).cell? ⟨g,2,none⟩=some z:=by
 refine⟨?_,?_,?_⟩
 ·rw[iB _ _ _ _ _ _ (.inr (by omega)),iB _ _ _ _ _ _ (.inr (by omega))];exact jI _ _ _ _ _ h0
 ·rw[iB _ _ _ _ _ _ (.inr (by omega))]
  exact jI _ _ _ _ _ (by rw[iB _ _ _ _ _ _ (.inr (by omega))];exact h1)
 ·exact jI _ _ _ _ _ (by rw[iB _ _ _ _ _ _ (.inr (by omega)),iB _ _ _ _ _ _ (.inr (by omega))];exact h2)
theorem ie (w:World):Kept 0 0 w w.drew:=⟨rfl,rfl,rfl,Nat.le_refl _,λ_ _ _=>rfl⟩
theorem mx {size:Nat}{v:Value}{xs:List Value}{W:World}(h:W.ownsRow base e size v n xs):∃a cap,v=.slice a n cap:=by
 rcases h.2 with⟨e,rfl⟩|⟨g,cap,cur,e,_⟩
 ·exact⟨none,0,e⟩
 ·exact⟨_,cap,e⟩
theorem qd (w:World)(g n c:Nat)(xs:List Int)(hn2:n<=1000000)(h:IE w g xs)(hx:xs.length=n):
  Calls Tryz.prog 76 #[.slice (some ⟨g,0,none⟩) n c] w λe w'=>∃a cap,e=.returned (.slice a n cap)/\w'.ownsRow w.heap.size 3 1 (.slice a n cap) n (xs.map (Value.int .i64))/\Kept 0 0 w w':=by
 obtain⟨i0,hi,hz0,hz1,hz2⟩:=info_parts ry
 have hc:∀k,k<n->w.cell? ⟨g,k,none⟩=some (.int .i64 (xs.getD k 0)):=λk hk=>h.cell k (by omega)
 have HN:Hid _:=B0 (w:=w) (g:=g) hx hc
 have HO:Hid _:=World.ownsRow_nil w w.heap.size 3 1
 have HX:Hid (xs.length=n):=hx
 clear hc hx h
 go_enter Tryz.func76,Tryz.ntmps76
 go_wp2_with (first|(at_builtin;refine wpList_append_own _ rfl _ _ 23 rfl w.heap.size 3 i0 (.int .i64 0) 1 8 Tryz.underlying23 hi hz0 hz1 hz2 rfl (by decide) _ _ _ rfl HO.out ⟨g,0,none⟩ n c (xs.map (Value.int .i64)) rfl ?c0 HN.out ?c2 ?c3 ?c4 ?c5 ?_))
 case c0=>exact HX.out
 case c2=>intro u hu;rfl
 case c3=>unfold maxLen;omega
 case c4=>omega
 intro v' w9 hown9 hg9 _
 obtain⟨a,cap,rfl⟩:=mx hown9
 have R:Hid _:=md (base:=w.heap.size) hg9 (λk hk=>by simp[Value.ownBlock] at hk) (Kept.refl 0 0 w) (Nat.le_refl _)
 have R2:Hid _:=hown9
 clear hown9 hg9
 go_wp2
 go_ret
 exact⟨a,cap,rfl,R2.out,R.out⟩
def j9 (u v:Value):Prop:=∀k,u.ownBlock=some k->v.ownBlock≠some k
theorem qe {b1 b2 e1 e2 s1 s2 n1:Nat}{v:Value}{xs ys:List Value}{W:World}(h1:W.ownsRow b1 e1 s1 u n1 xs)(h2:W'.ownsRow b2 e2 s2 v n2 ys)(hb:W.heap.size<=b2):j9 u v:=λk hk hv=>by
 have:=(ii h1 hk).2
 have:=(ii h2 hv).1
 omega
theorem xS (w:World)(P B o:Nat)(x y z:Value)(h:B≠P):(((w.setCell ⟨P,0,none⟩ x).setCell ⟨P,1,none⟩ y).setCell ⟨P,2,none⟩ z).cell? ⟨B,o,none⟩=w.cell? ⟨B,o,none⟩:=by
 rw[iB _ _ _ _ _ _ (.inl (Ne.symm h)),iB _ _ _ _ _ _ (.inl (Ne.symm h)),iB _ _ _ _ _ _ (.inl (Ne.symm h))]
theorem uP (w:World)(_lo g1 g2 g3 n1 c1 n2 c2 n3 c3:Nat)(ins:List Int)(vs:List Vl)(outs:List Int)(f:GN w g1 g2 g3 n2 ins vs outs)(e1:ins.length=n1)(e3:outs.length=n3)(l1:n1<=1000000)(l2:n2<=1000000)(l3:n3<=1000000):
  Calls Tryz.prog 48 #[ip (some ⟨g1,0,none⟩) n1 c1 (some ⟨g2,0,none⟩) n2 c2 (some ⟨g3,0,none⟩) n3 c3] w λe w'=>∃a1 d1 a2 d2 a3 d3,e=.returned (ip a1 n1 d1 a2 n2 d2 a3 n3 d3)/\w'.ownsRow w.heap.size 3 1 (.slice a1 n1 d1) n1 (ins.map (Value.int .i64))/\w'.ownsRow w.heap.size 31 6 (.slice a2 n2 d2) n2 (iN vs)/\w'.ownsRow w.heap.size 3 1 (.slice a3 n3 d3) n3 (outs.map (Value.int .i64))/\
   (j9 (.slice a2 n2 d2) (.slice a1 n1 d1)/\j9 (.slice a2 n2 d2) (.slice a3 n3 d3)/\j9 (.slice a1 n1 d1) (.slice a3 n3 d3))/\Kept 0 0 w w':=by
 obtain⟨i0,hi,hz0,hz1,hz2⟩:=info_parts tP
 have k1:=hU 0 0 w (iv (some ⟨g1,0,none⟩) n1 c1 (some ⟨g2,0,none⟩) n2 c2 (some ⟨g3,0,none⟩) n3 c3)
 have k2:=hU 0 0 (w.alloc (iv (some ⟨g1,0,none⟩) n1 c1 (some ⟨g2,0,none⟩) n2 c2 (some ⟨g3,0,none⟩) n3 c3)) iw
 have HB:Hid _:=(iO w (.slice (some ⟨g1,0,none⟩) n1 c1) (.slice (some ⟨g2,0,none⟩) n2 c2) (.slice (some ⟨g3,0,none⟩) n3 c3)).keep k2
 have hN:=i9 (w.alloc (iv (some ⟨g1,0,none⟩) n1 c1 (some ⟨g2,0,none⟩) n2 c2 (some ⟨g3,0,none⟩) n3 c3))
 rw[show(w.alloc (iv (some ⟨g1,0,none⟩) n1 c1 (some ⟨g2,0,none⟩) n2 c2 (some ⟨g3,0,none⟩) n3 c3)).heap.size=w.heap.size+1 by simp] at hN
 have HR:Hid _:=hN
 have HK:Hid _:=k1.trans k2
 have HI1:Hid _:=f.i.keep (k1.trans k2) (.inr (.inr (Nat.le_refl _)))
 have HI2:Hid _:=f.v.keep (k1.trans k2) (.inr (.inr (Nat.le_refl _)))
 have HI3:Hid _:=f.o.keep (k1.trans k2) (.inr (.inr (Nat.le_refl _)))
 clear f hN k1 k2
 obtain⟨_,q0,q1,q2⟩:=HB.out
 go_enter Tryz.func48,Tryz.ntmps48
 go_upto_region 2 with fail
 generalize (w.alloc (iv (some ⟨g1,0,none⟩) n1 c1 (some ⟨g2,0,none⟩) n2 c2 (some ⟨g3,0,none⟩) n3 c3)).alloc iw=w2 at HB HR HK HI1 HI2 HI3 q0 q1 q2 ⊢
 have HN:Hid _:=B1 (w:=w2) (g:=g2) HI2.out.len (λk hk=>HI2.out.at_ k hk)
 have HO:Hid _:=World.ownsRow_nil w2 w2.heap.size 31 6
 go_wp2_with (first|(at_builtin;refine wpList_append_own _ rfl _ _ 24 rfl w2.heap.size 31 i0 (jA 0 0 0 0 0 0) 6 48 Tryz.underlying24 hi hz0 hz1 hz2 rfl (by decide) _ _ _ rfl HO.out ⟨g2,0,none⟩ n2 c2 (iN vs) rfl ?c0 HN.out ?c2 ?c3 ?c4 ?c5 ?_))
 case c0=>rw[qc,HI2.out.len]
 case c2=>exact Cz vs
 case c3=>unfold maxLen;omega
 case c4=>omega
 intro v' w3 hown3 hg3 _
 obtain⟨a2,d2,rfl⟩:=mx hown3
 have k3:=md (base:=w2.heap.size) hg3 (λk hk=>by simp[Value.ownBlock] at hk) (Kept.refl 0 0 w2) (Nat.le_refl _)
 have HO2:Hid _:=hown3
 have HK3:Hid _:=k3
 clear hown3 hg3 HN HO q0 q1 q2 k3
 obtain⟨_,q0,q1,q2⟩:=G0.keep HB.out HK3.out
 have hI1:=IE.keep HI1.out HK3.out (.inr (.inr (Nat.le_refl _)))
 have HJ1:Hid _:=hI1
 have HJ3:Hid _:=IE.keep HI3.out HK3.out (.inr (.inr (Nat.le_refl _)))
 have HB3:Hid _:=G0.keep HB.out HK3.out
 have HR3:Hid _:=RB.keep HR.out HK3.out
 have HQ:Hid (w.heap.size+1<w2.heap.size/\w.heap.size<=w2.heap.size/\w2.heap.size<=w3.heap.size):=⟨HR.out.sz,HK.out.size,HK3.out.size⟩
 clear hI1 HB HR HI1 HI2 HI3
 go_wp2_with fail
 go_region_held3 (λw'=>w'.cell? ⟨w.heap.size,0,none⟩=some (.slice (some ⟨g1,0,none⟩) n1 c1)/\w'.cell? ⟨w.heap.size,2,none⟩=some (.slice (some ⟨g3,0,none⟩) n3 c3)) (first|go_keep|(simp only[xS _ _ _ _ _ _ _ hne];exact⟨r0,r2⟩))
  (first
   |(go_at_call 76;refine Calls.mono (qd w4 g3 n3 c3 outs l3 (IE.keep HJ3.out kk1 (.inr (.inr (Nat.le_refl _)))) e3) ?_;rintro e w5 ⟨a3,d3,rfl,o3,k5⟩;have kk2:=Kept.trans kk1 k5;obtain⟨_,r0,r1,r2⟩:=G0.keep HB3.out kk2;obtain⟨_,t0,t1,t2,x0,x1,x2⟩:=RB.keep HR3.out kk2;have hne:w.heap.size≠w.heap.size+1:=by omega)
   |(go_at_call 76;refine Calls.mono (qd (w3.drewN 1) g1 n1 c1 ins l1 (IE.drewN HJ1.out 1) e1) ?_;rintro e w4 ⟨a1,d1,rfl,o1,k4⟩;have kk1:=Kept.trans (iq 0 0 w3 1) k4;obtain⟨_,s0,s1,s2⟩:=G0.keep HB3.out kk1))
 go_wp2_with fail
 obtain⟨y0,y1,y2⟩:=iy w5 (w.heap.size+1) _ _ _ t0 t1 t2 (.slice a1 n1 d1) (.slice a2 n2 d2) (.slice a3 n3 d3)
 have kp:=iD w5 (w.heap.size+1) (.slice a1 n1 d1) (.slice a2 n2 d2) (.slice a3 n3 d3)
 have hz3:(w3.drewN 1).heap.size=w3.heap.size:=rfl
 have hz4:=k4.size
 have hQ:=HQ.out
 have key:∀{b e size n:Nat} {v:Value} {xs:List Value} {W:World},W.ownsRow b e size v n xs->w2.heap.size<=b->Kept 0 0 W w5->(((w5.setCell ⟨w.heap.size+1,0,none⟩ (.slice a1 n1 d1)).setCell ⟨w.heap.size+1,1,none⟩ (.slice a2 n2 d2)).setCell ⟨w.heap.size+1,2,none⟩ (.slice a3 n3 d3)).ownsRow w.heap.size e size v n xs:=λh hb k=>
  jP (iR (iC h k) kp (λg hg=>by have:=(ii h hg).1;omega)) (by omega)
 refine bodyPost_ret (v:=ip a1 n1 d1 a2 n2 d2 a3 n3 d3) (by simp[results,Tryz.results48,go_sem,y0,y1,y2]) rfl ⟨a1,d1,a2,d2,a3,d3,rfl,key o1 (by omega) k5,key HO2.out (Nat.le_refl _) kk2,key o3 (by omega) (Kept.refl 0 0 _),⟨qe HO2.out o1 (by omega),qe HO2.out o3 (by omega),qe o1 o3 (Nat.le_refl _)⟩,Kept.new ((HK.out.trans HK3.out).trans kk2) kp (by omega)⟩
theorem sH {W:World}(h:W.ownsRow base 3 1 (.slice b n d) n (xs.map (Value.int .i64)))(hl:xs.length=n):n=0\/∃g,b=some ⟨g,0,none⟩/\base<=g/\IBk W g n xs:=by
 rcases h.2 with⟨_,c⟩|⟨g,cap,cur,e,b1,b2,b3,_,b5,b6⟩
 ·exact .inl c
 ·injection e with q1 q2 q3
  subst q1
  have hg:g<W.heap.size:=by
   rcases Nat.lt_or_ge g W.heap.size with c|c
   ·exact c
   ·rw[Array.getElem?_eq_none c] at b2;cases b2
  refine .inr ⟨g,rfl,b1,hl,hg,λk hk=>?_,λo=>frozen_of_row W g o _ _ b2⟩
  rw[cell_of_row W g _ cur _ _ b2,<-Array.getElem?_toList]
  have:(cur.toList.take (n*1))[k]? =(xs.map (Value.int .i64))[k]?:=by rw[b6]
  rw[List.getElem?_take_of_lt (by omega)] at this
  rw[this,List.getElem?_map,List.getD_eq_getElem?_getD,List.getElem?_eq_getElem (by omega)]
  rfl
theorem IZ.is {W:World}{a:Option Addr}(h:IZ W g a n xs)(hl:xs.length=n):IS W 0 W.heap.size a n xs:=
 ⟨hl,by
  rcases h with h0|⟨rfl,q⟩
  ·exact .inl h0
  ·exact .inr ⟨g,0,rfl,Nat.zero_le _,q.lt,q.lt,λk hk=>by rw[Nat.zero_add];exact q.at_ k hk⟩⟩
theorem VZ.vs {W:World}{a:Option Addr}{vs:List Vl}(h:VZ W g a n vs)(hl:vs.length=n)(hk:∀v∈vs,v.k<18446744073709551616):VS W 0 W.heap.size a n vs:=
 ⟨hl,hk,by
  rcases h with h0|⟨rfl,q⟩
  ·exact .inl h0
  ·exact .inr ⟨g,0,rfl,Nat.zero_le _,q.lt,q.lt,λk hk=>by rw[Nat.zero_add];exact q.at_ k hk⟩⟩
theorem sI {W:World}(h:W.ownsRow base 3 1 (.slice b n d) n (xs.map (Value.int .i64)))(hl:xs.length=n):IS W 0 W.heap.size b n xs:=by
 rcases sH h hl with h0|⟨g,e,_,q⟩
 ·exact IZ.is (g:=0) (.inl h0) hl
 ·exact IZ.is (g:=g) (.inr ⟨e,q⟩) hl
theorem CB {W:World}{vs:List Vl}(h:W.ownsRow base 31 6 (.slice b n d) n (iN vs))(hl:vs.length=n)(hk:∀v∈vs,v.k<18446744073709551616):VS W 0 W.heap.size b n vs:=by
 rcases Nat.eq_zero_or_pos n with h0|h0
 ·exact VZ.vs (g:=0) (.inl h0) hl hk
 ·obtain⟨g,cap,e,_,_,_,hA⟩:=kU h h0 hl
  injection e with q1
  exact VZ.vs (g:=g) (.inr ⟨q1,hA⟩) hl hk
structure GL (w:World)(lo:Nat)(a1:Option Addr)(n1:Nat)(a2:Option Addr)(n2:Nat)(a3:Option Addr)(n3:Nat)(ins:List Int)(vs:List Vl)(outs:List Int):Prop where
 i:IS w lo w.heap.size a1 n1 ins
 v:VS w lo w.heap.size a2 n2 vs
 o:IS w lo w.heap.size a3 n3 outs
theorem GL.gs {n1:Nat}{vs:List Vl}(f:GL w lo a1 n1 a2 n2 a3 n3 ins vs outs):GS w a1 n1 a2 n2 a3 n3 ins vs outs:=
 ⟨f.i.mono (Nat.zero_le _) (Nat.le_refl _),f.v.mono (Nat.zero_le _) (Nat.le_refl _),f.o.mono (Nat.zero_le _) (Nat.le_refl _)⟩
theorem GL.keep {l n1:Nat}{vs:List Vl}(f:GL w lo a1 n1 a2 n2 a3 n3 ins vs outs)(k:Kept l h w w')(hd:h<=lo\/h<=l):GL w' lo a1 n1 a2 n2 a3 n3 ins vs outs:=
 ⟨(f.i.keep k (.inr hd)).mono (Nat.le_refl _) k.size,(f.v.keep k (.inr hd)).mono (Nat.le_refl _) k.size,(f.o.keep k (.inr hd)).mono (Nat.le_refl _) k.size⟩
theorem GL.of {W:World}{n1 d1 d2 d3:Nat}{b1 b3:Option Addr}{vs:List Vl}(o1:W.ownsRow base 3 1 (.slice b1 n1 d1) n1 (ins.map (Value.int .i64)))(o2:W.ownsRow base 31 6 (.slice a2 vs.length d2) vs.length (iN vs))(o3:W.ownsRow base 3 1 (.slice b3 n3 d3) n3 (outs.map (Value.int .i64)))(h1:ins.length=n1)(h3:outs.length=n3)(hk:∀v∈vs,v.k<18446744073709551616):GL W base b1 n1 a2 vs.length b3 n3 ins vs outs:=by
 have ki:∀{n d:Nat} {b:Option Addr} {xs:List Int},W.ownsRow base 3 1 (.slice b n d) n (xs.map (Value.int .i64))->xs.length=n->IS W base W.heap.size b n xs:=λho hl=>by
  rcases sH ho hl with h0|⟨g,e,hg,q⟩
  ·exact⟨hl,.inl h0⟩
  ·exact⟨hl,.inr ⟨g,0,e,hg,q.lt,q.lt,λk hk=>by rw[Nat.zero_add];exact q.at_ k hk⟩⟩
 refine⟨ki o1 h1,?_,ki o3 h3⟩
 rcases Nat.eq_zero_or_pos vs.length with h0|h0
 ·exact⟨rfl,hk,.inl h0⟩
 ·obtain⟨g,cap,e,hg,hl,_,hA⟩:=kU o2 h0 rfl
  injection e with q1
  exact⟨rfl,hk,.inr ⟨g,0,q1,hg,hl,hl,λk hk=>by rw[Nat.zero_add];exact hA.at_ k hk⟩⟩
theorem CC (w:World):GS w none 0 none 0 none 0 [] [] []:=⟨⟨rfl,.inl rfl⟩,⟨rfl,by simp,.inl rfl⟩,⟨rfl,.inl rfl⟩⟩
theorem G0.keepC {W:World}(t:G0 W p b0 b1 b2)(k:Chg S W W')(hd:¬S p):G0 W' p b0 b1 b2:=by
 have e:∀o,W'.cell? ⟨p,o,none⟩=W.cell? ⟨p,o,none⟩:=λo=>k.cell (p:=⟨p,o,none⟩) t.sz hd
 exact⟨Nat.lt_of_lt_of_le t.sz k.size,by rw[e];exact t.q0,by rw[e];exact t.q1,by rw[e];exact t.q2⟩
theorem GN.keepJ {g1 g2 g3:Nat}{vs:List Vl}(f:GN w g1 g2 g3 n2 ins vs outs)(k:Kept 0 0 w w'):GN w' g1 g2 g3 n2 ins vs outs:=
 ⟨f.i.keep k (.inr (.inr (Nat.le_refl _))),f.v.keep k (.inr (.inr (Nat.le_refl _))),f.o.keep k (.inr (.inr (Nat.le_refl _)))⟩
theorem jB (a b:List Vl):ig (a++b)=ig a+ig b:=by
 induction a with
 |nil=>simp[ig]
 |cons y ys ih=>simp[ig,ih];omega
def Bd (w:World)(P:Nat)(u1 u3:Value)(vs:List Vl)(c:Int)(base:Nat)(R:Option Nat)(M:List Vl×Int)(e:Ending)(w':World):Prop:=
 e=.returned (.int .i64 M.2)/\∃R' vv',BS w' P u1 u3 (vs++M.1) (c+ig M.1) base R' vv'/\Stp P R w R' w'
structure Bnd (vs:List Vl)(c:Int)(n:Int):Prop where
 l:vs.length<=900000
 c0:-900000000<=c
 c1:c<=900000000
 n0:-1000<=n
 n1:n<=1000
abbrev ik (op n p q r:Int):Vl:=⟨op,n,p,q,r,0⟩
theorem rA (w:World)(P:Nat)(u1 u3:Value)(vs:List Vl)(c:Int)(base:Nat)(R:Option Nat)(vv:Value)(v:Vl)(h:BS w P u1 u3 vs c base R vv)(hn:vs.length<=1000000)(hc0:-1000000000<=c)(hc1:c<=1000000000)(hl0:-1000000000<=v.len)(hl1:v.len<=1000000000):
  Calls Tryz.prog 112 #[.pointer (some ⟨P,0,none⟩),v.agg] w λe w'=>Bd w P u1 u3 vs c base R ([v],(vs.length:Nat)) e w':=
 (Cy w P u1 u3 vs c base R vv v h hn hc0 hc1 hl0 hl1).mono λe w' ⟨h1,R',vv',h2,h3⟩=>⟨h1,R',vv',by simpa[ig] using h2,h3⟩
theorem kE (w:World)(P:Nat)(u1 u3:Value)(vs:List Vl)(c:Int)(base:Nat)(R:Option Nat)(vv:Value)(op n p q r:Int)(h:BS w P u1 u3 vs c base R vv)(hn:vs.length<=1000000)(hc0:-1000000000<=c)(hc1:c<=1000000000)(hl0:-1000000000<=n)(hl1:n<=1000000000):
  Calls Tryz.prog 86 #[.pointer (some ⟨P,0,none⟩),.int .i64 op,.int .i64 n,.int .i64 p,.int .i64 q,.int .i64 r] w λe w'=>Bd w P u1 u3 vs c base R ([ik op n p q r],(vs.length:Nat)) e w':=by
 have HX:Hid _:=rA w P u1 u3 vs c base R vv (ik op n p q r) h hn hc0 hc1 hl0 hl1
 clear h hn hc0 hc1 hl0 hl1
 go_enter Tryz.func86,Tryz.ntmps86
 go_wp2_with fail
 refine Calls.mono HX.out ?_
 rintro e w' ⟨rfl,hR⟩
 have R:Hid _:=hR
 clear hR
 go_wp2
 go_ret
 exact⟨rfl,R.out⟩
theorem pw (w:World)(P:Nat)(u1 u3:Value)(vs:List Vl)(c:Int)(base:Nat)(R:Option Nat)(vv:Value)(n:Int)(K:Nat)(h:BS w P u1 u3 vs c base R vv)(hn:vs.length<=1000000)(hc0:-1000000000<=c)(hc1:c<=1000000000)(hl0:-1000000000<=n)(hl1:n<=1000000000):
  Calls Tryz.prog 88 #[.pointer (some ⟨P,0,none⟩),.int .i64 n,.float .f64 K] w λe w'=>Bd w P u1 u3 vs c base R ([⟨1,n,0,0,0,K⟩],(vs.length:Nat)) e w':=by
 have HX:Hid _:=rA w P u1 u3 vs c base R vv ⟨1,n,0,0,0,K⟩ h hn hc0 hc1 hl0 hl1
 clear h hn hc0 hc1 hl0 hl1
 go_enter Tryz.func88,Tryz.ntmps88
 go_wp2_with fail
 refine Calls.mono HX.out ?_
 rintro e w' ⟨rfl,hR⟩
 have R:Hid _:=hR
 clear hR
 go_wp2
 go_ret
 exact⟨rfl,R.out⟩
theorem nd (w:World)(P:Nat)(u1 u3:Value)(vs:List Vl)(c:Int)(base:Nat)(R:Option Nat)(vv:Value)(n:Int)(h:BS w P u1 u3 vs c base R vv)(hn:vs.length<=1000000)(hc0:-1000000000<=c)(hc1:c<=1000000000)(hl0:-1000000000<=n)(hl1:n<=1000000000):
  Calls Tryz.prog 63 #[.pointer (some ⟨P,0,none⟩),.int .i64 n] w λe w'=>Bd w P u1 u3 vs c base R ([ik 1 n 0 0 0],(vs.length:Nat)) e w':=by
 have HX:Hid _:=pw w P u1 u3 vs c base R vv n 0 h hn hc0 hc1 hl0 hl1
 clear h hn hc0 hc1 hl0 hl1
 go_enter Tryz.func63,Tryz.ntmps63
 go_wp2_with fail
 refine Calls.mono HX.out ?_
 rintro e w' ⟨rfl,hR⟩
 have R:Hid _:=hR
 clear hR
 go_wp2
 go_ret
 exact⟨rfl,R.out⟩
theorem Bd.none {vs:List Vl}(h:BS w P u1 u3 vs c base R vv)(r:Int):Bd w P u1 u3 vs c base R ([],r) (.returned (.int .i64 r)) w:=
 ⟨rfl,R,vv,by simpa[ig] using h,StQ.refl _ _ _⟩
theorem Bd.after {vs:List Vl}{M:List Vl×Int}{e:Ending}(hs:Stp P R w R' w')(h:Bd w' P u1 u3 (vs++a) (c+ig a) base R' M e w''):Bd w P u1 u3 vs c base R (a++M.1,M.2) e w'':=by
 obtain⟨h1,R'',vv'',h2,h3⟩:=h
 refine⟨h1,R'',vv'',?_,hs.trans h3⟩
 have e2:c+ig (a++M.1)=c+ig a+ig M.1:=by rw[jB];omega
 show BS w'' P u1 u3 (vs++(a++M.1)) (c+ig (a++M.1)) base R'' vv''
 rw[e2,<-List.append_assoc]
 exact h2
theorem Bd.kept {vs:List Vl}{M:List Vl×Int}{e:Ending}(k:Kept 0 0 w w')(h:Bd w' P u1 u3 vs c base R M e w''):Bd w P u1 u3 vs c base R M e w'':=by
 obtain⟨h1,R'',vv'',h2,h3⟩:=h
 exact⟨h1,R'',vv'',h2,StQ.trans ⟨k.chg,.inl rfl⟩ h3⟩
def mb (n p q:Int)(N:Nat):List Vl×Int:=if p=-1 then ([],q) else if q=-1 then ([],p) else ([ik 2 n p q 0],N)
def oG (n p q:Int)(N:Nat):List Vl×Int:=if q=-1 then ([],p) else if p=-1 then ([ik 6 n q 0 0],N) else ([ik 3 n p q 0],N)
def chM (n d p q:Int)(N:Nat):List Vl×Int:=
 if p=-1 then (if q=-1 then ([ik 1 n 0 0 0,ik 1 n 0 0 0,ik 8 n d N ((N+1:Nat):Int)],((N+2:Nat):Int)) else ([ik 1 n 0 0 0,ik 8 n d N q],((N+1:Nat):Int)))
 else (if q=-1 then ([ik 1 n 0 0 0,ik 8 n d p N],((N+1:Nat):Int)) else ([ik 8 n d p q],(N:Int)))
theorem xT (w:World)(P:Nat)(u1 u3:Value)(vs:List Vl)(c:Int)(base:Nat)(R:Option Nat)(vv:Value)(n p q:Int)(h:BS w P u1 u3 vs c base R vv)(b:Bnd vs c n):
  Calls Tryz.prog 82 #[.pointer (some ⟨P,0,none⟩),.int .i64 n,.int .i64 p,.int .i64 q] w λe w'=>Bd w P u1 u3 vs c base R (mb n p q vs.length) e w':=by
 have HX:Hid _:=kE w P u1 u3 vs c base R vv 2 n p q 0 h (by have:=b.l;omega) (by have:=b.c0;omega) (by have:=b.c1;omega) (by have:=b.n0;omega) (by have:=b.n1;omega)
 have HB:Hid _:=h
 clear h b
 unfold mb
 by_cases hp:p=-1
 ·subst hp
  rw[if_pos rfl]
  have R0:Hid (∃R' vv',BS w P u1 u3 (vs++[]) (c+ig []) base R' vv'/\Stp P R w R' w):=(Bd.none HB.out q).2
  clear HX HB
  go_enter Tryz.func82,Tryz.ntmps82
  go_wp2
  go_ret
  exact⟨rfl,R0.out⟩
 ·rw[if_neg hp]
  have tp:(p==-1)=false:=beq_eq_false_iff_ne.2 hp
  by_cases hq:q=-1
  ·subst hq
   rw[if_pos rfl]
   have R0:Hid (∃R' vv',BS w P u1 u3 (vs++[]) (c+ig []) base R' vv'/\Stp P R w R' w):=(Bd.none HB.out p).2
   clear HX HB hp
   go_enter Tryz.func82,Tryz.ntmps82
   go_wp2
   go_ret
   exact⟨rfl,R0.out⟩
  ·rw[if_neg hq]
   have tq:(q==-1)=false:=beq_eq_false_iff_ne.2 hq
   clear hp hq
   go_enter Tryz.func82,Tryz.ntmps82
   go_wp2_with fail
   refine Calls.mono HX.out ?_
   rintro e w' ⟨rfl,hR⟩
   have R:Hid _:=hR
   clear hR
   go_wp2
   go_ret
   exact⟨rfl,R.out⟩
theorem CD (w:World)(P:Nat)(u1 u3:Value)(vs:List Vl)(c:Int)(base:Nat)(R:Option Nat)(vv:Value)(n p q:Int)(h:BS w P u1 u3 vs c base R vv)(b:Bnd vs c n):
  Calls Tryz.prog 83 #[.pointer (some ⟨P,0,none⟩),.int .i64 n,.int .i64 p,.int .i64 q] w λe w'=>Bd w P u1 u3 vs c base R (oG n p q vs.length) e w':=by
 have HX:Hid (∀op x y z,_):=λop x y z=>kE w P u1 u3 vs c base R vv op n x y z h (by have:=b.l;omega) (by have:=b.c0;omega) (by have:=b.c1;omega) (by have:=b.n0;omega) (by have:=b.n1;omega)
 have HB:Hid _:=h
 clear h b
 unfold oG
 by_cases hq:q=-1
 ·subst hq
  rw[if_pos rfl]
  have R0:Hid (∃R' vv',BS w P u1 u3 (vs++[]) (c+ig []) base R' vv'/\Stp P R w R' w):=(Bd.none HB.out p).2
  clear HX HB
  go_enter Tryz.func83,Tryz.ntmps83
  go_wp2
  go_ret
  exact⟨rfl,R0.out⟩
 ·rw[if_neg hq]
  have tq:(q==-1)=false:=beq_eq_false_iff_ne.2 hq
  by_cases hp:p=-1
  ·subst hp
   rw[if_pos rfl]
   clear hq
   go_enter Tryz.func83,Tryz.ntmps83
   go_wp2_with fail
   refine Calls.mono (HX.out 6 q 0 0) ?_
   rintro e w' ⟨rfl,hR⟩
   have R:Hid _:=hR
   clear hR
   go_wp2
   go_ret
   exact⟨rfl,R.out⟩
  ·rw[if_neg hp]
   have tp:(p==-1)=false:=beq_eq_false_iff_ne.2 hp
   clear hp hq
   go_enter Tryz.func83,Tryz.ntmps83
   go_wp2_with fail
   refine Calls.mono (HX.out 3 p q 0) ?_
   rintro e w' ⟨rfl,hR⟩
   have R:Hid _:=hR
   clear hR
   go_wp2
   go_ret
   exact⟨rfl,R.out⟩
theorem xU {vs:List Vl}(h:BS w1 P u1 u3 (vs++a) (c+ig a) base R1 vv)(s:Stp P R w R1 w1)(hl:vs.length+a.length<=1000000)(h0:-1000000000<=c+ig a)(h1:c+ig a<=1000000000)(op n p q r:Int)(hn0:-1000<=n)(hn1:n<=1000):
  Calls Tryz.prog 86 #[.pointer (some ⟨P,0,none⟩),.int .i64 op,.int .i64 n,.int .i64 p,.int .i64 q,.int .i64 r] w1 λe w'=>Bd w P u1 u3 vs c base R (a++[ik op n p q r],((vs.length+a.length:Nat):Int)) e w':=
 (kE w1 P u1 u3 (vs++a) (c+ig a) base R1 vv op n p q r h (by rw[List.length_append];exact hl) h0 h1 (by omega) (by omega)).mono λe w' hb=>by
  rw[List.length_append] at hb
  exact Bd.after s hb
def nX (v:Vl)(ta tb:Int)(N:Nat):List Vl×Int:=
 if ta=-1 then (if tb=-1 then ([],-1) else ([ik 4 v.len v.a tb 0],(N:Int)))
 else (if tb=-1 then ([ik 4 v.len ta v.b 0],(N:Int)) else ([ik 4 v.len ta v.b 0,ik 4 v.len v.a tb 0,ik 2 v.len N ((N+1:Nat):Int) 0],((N+2:Nat):Int)))
def xV (i:Int)(v:Vl)(ta tb:Int)(N:Nat):List Vl×Int:=
 if ta=-1 then (if tb=-1 then ([],-1) else ([ik 4 v.len i tb 0,ik 5 v.len N v.b 0,ik 6 v.len ((N+1:Nat):Int) 0 0],((N+2:Nat):Int)))
 else (if tb=-1 then ([ik 5 v.len ta v.b 0],(N:Int)) else ([ik 5 v.len ta v.b 0,ik 4 v.len i tb 0,ik 5 v.len ((N+1:Nat):Int) v.b 0,ik 3 v.len N ((N+2:Nat):Int) 0],((N+3:Nat):Int)))
theorem xW {vs:List Vl}(h:BS w1 P u1 u3 (vs++a) (c+ig a) base R1 vv)(s:Stp P R w R1 w1){n:Int}(b:Bnd (vs++a) (c+ig a) n)(p q:Int):
  Calls Tryz.prog 82 #[.pointer (some ⟨P,0,none⟩),.int .i64 n,.int .i64 p,.int .i64 q] w1 λe w'=>Bd w P u1 u3 vs c base R (a++(mb n p q (vs.length+a.length)).1,(mb n p q (vs.length+a.length)).2) e w':=
 (xT w1 P u1 u3 (vs++a) (c+ig a) base R1 vv n p q h b).mono λe w' hb=>by
  rw[List.length_append] at hb
  exact Bd.after s hb
theorem BS.keep {vs:List Vl}(h:BS w P u1 u3 vs c base R vv)(k:Kept 0 0 w w'):BS w' P u1 u3 vs c base R vv:=
 ⟨Nat.lt_of_lt_of_le h.lt k.size,λo=>by rw[k.frozen (p:=⟨P,o,none⟩) h.lt (by omega)];exact h.free o,jq k h.lt h.c0,jq k h.lt h.c1,jq k h.lt h.c2,jq k h.lt h.c3,iC h.own k,h.row,h.ne,Nat.le_trans h.sz k.size⟩
theorem BS.far {vs:List Vl}(h:BS w P u1 u3 vs c base R vv):w.heap.size≠P/\R≠some w.heap.size:=
 ⟨by have:=h.lt;omega,λe=>by have:=(ii h.own (h.row.trans e)).2;omega⟩
theorem At.step {B o:Nat}{v:Vl}(a:At w B o v)(s:Stp P R w R' w')(hB:B<w.heap.size)(hf:B≠P/\R≠some B):At w' B o v:=by
 have e:∀k,w'.cell? ⟨B,k,none⟩=w.cell? ⟨B,k,none⟩:=λk=>s.chg.cell (p:=⟨B,k,none⟩) hB (by rintro (c|c);exact hf.1 c;exact hf.2 c)
 exact⟨by rw[e];exact a.c0,by rw[e];exact a.c1,by rw[e];exact a.c2,by rw[e];exact a.c3,by rw[e];exact a.c4,by rw[e];exact a.c5⟩
structure Bnd0 (vs:List Vl)(c:Int)(n:Int):Prop where
 l:vs.length<=800000
 c0:-800000000<=c
 c1:c<=800000000
 n0:-1000<=n
 n1:n<=1000
theorem Bd.cast {vs:List Vl}{M M':List Vl×Int}{e:Ending}(e1:M=M')(h:Bd w P u1 u3 vs c base R M e w'):Bd w P u1 u3 vs c base R M' e w':=e1 ▸ h
theorem Ag {n p:Int}(hp:p≠-1)(hq:q≠-1):mb n p q N=([ik 2 n p q 0],(N:Int)):=by unfold mb;rw[if_neg hp,if_neg hq]
theorem CE {n p:Int}(hp:p≠-1):mb n p (-1) N=([],p):=by unfold mb;rw[if_neg hp,if_pos rfl]
theorem xX {n:Int}:mb n (-1) q N=([],q):=by unfold mb;rw[if_pos rfl]
theorem product (w:World)(P:Nat)(u1 u3:Value)(vs:List Vl)(c:Int)(base:Nat)(R:Option Nat)(vv:Value)(v:Vl)(ta tb:Int)(h:BS w P u1 u3 vs c base R vv)(b:Bnd0 vs c v.len):
  Calls Tryz.prog 84 #[.pointer (some ⟨P,0,none⟩),v.agg,.int .i64 ta,.int .i64 tb] w λe w'=>Bd w P u1 u3 vs c base R (nX v ta tb vs.length) e w':=by
 have k0:=hU 0 0 w (ij v.op v.len v.a v.b v.c v.k)
 have hv:=lr w v
 have hf:=h.far
 have h':=h.keep k0
 have HX:Hid (∀{w1:World} {a:List Vl} {R1:Option Nat} {vv:Value},BS w1 P u1 u3 (vs++a) (c+ig a) base R1 vv->Stp P R (w.alloc (ij v.op v.len v.a v.b v.c v.k)) R1 w1->a.length<=10->-100000<=ig a->ig a<=100000->∀op p q r,_):=λh s l0 l1 l2 op p q r=>xU h s (by have:=b.l;omega) (by have:=b.c0;omega) (by have:=b.c1;omega) op v.len p q r b.n0 b.n1
 have HY:Hid (∀{w1:World} {a:List Vl} {R1:Option Nat} {vv:Value},BS w1 P u1 u3 (vs++a) (c+ig a) base R1 vv->Stp P R (w.alloc (ij v.op v.len v.a v.b v.c v.k)) R1 w1->a.length<=10->-100000<=ig a->ig a<=100000->∀p q,_):=λ{w1 a R1 vv} h s l0 l1 l2 p q=>xW (n:=v.len) h s ⟨by rw[List.length_append];have:=b.l;omega,by have:=b.c0;omega,by have:=b.c1;omega,b.n0,b.n1⟩ p q
 have HB:Hid (BS (w.alloc (ij v.op v.len v.a v.b v.c v.k)) P u1 u3 (vs++[]) (c+ig []) base R vv):=by show BS _ _ _ _ _ _ _ _ _;simpa[ig] using h'
 have HN:Hid (-1000<=v.len/\v.len<=1000):=⟨b.n0,b.n1⟩
 have HK:Hid _:=k0
 have HV:Hid (∀{w1:World} {R1:Option Nat},Stp P R (w.alloc (ij v.op v.len v.a v.b v.c v.k)) R1 w1->At w1 w.heap.size 0 v):=λs=>hv.step s (by simp) hf
 clear h h' b k0 hf hv
 obtain⟨v0,v1,v2,v3,v4,v5⟩:=HV.out (StQ.refl _ _ _)
 unfold nX
 by_cases hp:ta=-1
 ·subst hp
  rw[if_pos rfl]
  by_cases hq:tb=-1
  ·subst hq
   rw[if_pos rfl]
   go_enter Tryz.func84,Tryz.ntmps84
   go_wp2_with fail
   refine Calls.mono (HY.out HB.out (StQ.refl _ _ _) (by simp) (by simp[ig]) (by simp[ig]) (-1) (-1)) ?_
   rintro e w9 hb
   obtain⟨rfl,hR⟩:=Bd.cast (M':=_) (by rw[xX]) (Bd.kept HK.out hb)
   have R:Hid _:=hR
   clear hR hb
   go_wp2
   go_ret
   exact⟨rfl,R.out⟩
  ·rw[if_neg hq]
   have tq:(tb !=-1)=true:=by simpa using hq
   go_enter Tryz.func84,Tryz.ntmps84
   go_wp2_with fail
   refine Calls.mono (HX.out HB.out (StQ.refl _ _ _) (by simp) (by simp[ig];try (have:=HN.out;omega)) (by simp[ig];try (have:=HN.out;omega)) 4 v.a tb 0) ?_
   rintro e w1 ⟨rfl,R1,vv1,h1,s1⟩
   have H1:Hid _:=h1
   have S1:Hid _:=s1
   clear h1 s1 v0 v1 v2 v3 v4 v5
   obtain⟨v0,v1,v2,v3,v4,v5⟩:=HV.out S1.out
   go_wp2_with fail
   refine Calls.mono (HY.out H1.out S1.out (by simp) (by simp[ig];try (have:=HN.out;omega)) (by simp[ig];try (have:=HN.out;omega)) (-1) _) ?_
   rintro e w9 hb
   obtain⟨rfl,hR⟩:=Bd.cast (M':=_) (by rw[xX]) (Bd.kept HK.out hb)
   have R:Hid _:=hR
   clear hR hb
   go_wp2
   go_ret
   exact⟨rfl,R.out⟩
 ·rw[if_neg hp]
  have tp:(ta !=-1)=true:=by simpa using hp
  by_cases hq:tb=-1
  ·subst hq
   rw[if_pos rfl]
   go_enter Tryz.func84,Tryz.ntmps84
   go_wp2_with fail
   refine Calls.mono (HX.out HB.out (StQ.refl _ _ _) (by simp) (by simp[ig];try (have:=HN.out;omega)) (by simp[ig];try (have:=HN.out;omega)) 4 ta v.b 0) ?_
   rintro e w1 ⟨rfl,R1,vv1,h1,s1⟩
   have H1:Hid _:=h1
   have S1:Hid _:=s1
   clear h1 s1 v0 v1 v2 v3 v4 v5
   obtain⟨v0,v1,v2,v3,v4,v5⟩:=HV.out S1.out
   go_wp2_with fail
   refine Calls.mono (HY.out H1.out S1.out (by simp) (by simp[ig];try (have:=HN.out;omega)) (by simp[ig];try (have:=HN.out;omega)) _ (-1)) ?_
   rintro e w9 hb
   obtain⟨rfl,hR⟩:=Bd.cast (M':=_) (by rw[CE (by omega)]) (Bd.kept HK.out hb)
   have R:Hid _:=hR
   clear hR hb
   go_wp2
   go_ret
   exact⟨rfl,R.out⟩
  ·rw[if_neg hq]
   have tq:(tb !=-1)=true:=by simpa using hq
   go_enter Tryz.func84,Tryz.ntmps84
   go_wp2_with fail
   refine Calls.mono (HX.out HB.out (StQ.refl _ _ _) (by simp) (by simp[ig];try (have:=HN.out;omega)) (by simp[ig];try (have:=HN.out;omega)) 4 ta v.b 0) ?_
   rintro e w1 ⟨rfl,R1,vv1,h1,s1⟩
   have H1:Hid _:=h1
   have S1:Hid _:=s1
   clear h1 s1 v0 v1 v2 v3 v4 v5
   obtain⟨v0,v1,v2,v3,v4,v5⟩:=HV.out S1.out
   go_wp2_with fail
   refine Calls.mono (HX.out H1.out S1.out (by simp) (by simp[ig];try (have:=HN.out;omega)) (by simp[ig];try (have:=HN.out;omega)) 4 v.a tb 0) ?_
   rintro e w2 ⟨rfl,R2,vv2,h2,s2⟩
   have H2:Hid _:=h2
   have S2:Hid _:=s2
   clear h2 s2 v0 v1 v2 v3 v4 v5
   obtain⟨v0,v1,v2,v3,v4,v5⟩:=HV.out S2.out
   go_wp2_with fail
   refine Calls.mono (HY.out H2.out S2.out (by simp) (by simp[ig];try (have:=HN.out;omega)) (by simp[ig];try (have:=HN.out;omega)) _ _) ?_
   rintro e w9 hb
   obtain⟨rfl,hR⟩:=Bd.cast (M':=_) (by rw[Ag (by omega) (by omega)]) (Bd.kept HK.out hb)
   have R:Hid _:=hR
   clear hR hb
   go_wp2
   go_ret
   exact⟨rfl,R.out⟩
end Go.Proofs.YtnlffngpnoodkaaGreat
