import Derived.Test.YtgamjhpebmmjcaaGreatDoorP20
import Derived.Laws.Cover3
import Derived.Deep.AppendLies
import Derived.Test.YtgamjhpebmmjcaaGreatDoorP07
import Derived.Test.YtgamjhpebmmjcaaGreatDoorP09
import Derived.Test.YtgamjhpebmmjcaaGreatDoorP23
namespace Go.Proofs.YtgamjhpebmmjcaaGreatDoor
set_option maxRecDepth 100000
set_option maxHeartbeats 40000000
open Go.RowKit Flt
theorem neg_congr {x y:Nat}(hx:x<18446744073709551616)(hy:y<18446744073709551616)(h:fb x=fb y):fb (Op.negFloat .f64 x)=fb (Op.negFloat .f64 y):=by
 rcases fb_cases h with rfl|⟨a,b⟩
 ·rfl
 ·have key:∀z,z<18446744073709551616→(f64.read z).isNaN=true→(f64.read (Op.negFloat .f64 z)).isNaN=true:=fun z hz hn=>by
   obtain⟨s,r,hr,rfl⟩:=split_word z hz
   rw[neg_W s hr]
   rcases Nat.lt_or_ge 9218868437227405312 r with c|c
   ·rw[show f64.read (W (!s) r)=_ from read_nan c hr];rfl
   ·have:=isn_num (s:=s) c
    rw[isn_iff,hn] at this
    cases this
  exact fb_nan_eq (key x hx a) (key y hy b)
theorem greater_congr {x y x' y':Nat}(h:fb x=fb x')(h':fb y=fb y'):fb (greaterN x y)=fb (greaterN x' y'):=by
 have e:FloatKind.f64.format.order x y=FloatKind.f64.format.order x' y':=order_congr h h'
 unfold greaterN
 rw[e]
 split
 ·exact h
 ·exact h'
theorem chosen_congr {x y z x' y' z':Nat}(h:fb x=fb x')(h':fb y=fb y')(h'':fb z=fb z'):fb (chosenN x y z)=fb (chosenN x' y' z'):=by
 have e:FloatKind.f64.format.order x 0=FloatKind.f64.format.order x' 0:=order_congr h rfl
 unfold chosenN
 rw[e]
 split
 ·exact h'
 ·exact h''
theorem exp_congr {x y:Nat}(h:fb x=fb y):fb (cexp x)=fb (cexp y):=by
 have e1:FloatKind.f64.format.order x x=FloatKind.f64.format.order y y:=order_congr h h
 have e2:FloatKind.f64.format.order x 4652007308841189376=FloatKind.f64.format.order y 4652007308841189376:=order_congr h rfl
 have e3:FloatKind.f64.format.order x 13875379345695965184=FloatKind.f64.format.order y 13875379345695965184:=order_congr h rfl
 unfold cexp
 rw[e1,e2,e3,cop_congr .quo h rfl]
 split
 ·exact h
 ·rfl
theorem csum_congr {xs ys:List Nat}(h:same xs ys)(h0:0<xs.length):fb (csum xs)=fb (csum ys):=by
 have hl:=same_len h
 have key:∀k,0<k→k≤xs.length→fb (csum (xs.take k))=fb (csum (ys.take k)):=fun k=>by
  induction k with
  |zero=>intro c;omega
  |succ k ih=>
   intro _ hk
   rcases Nat.eq_zero_or_pos k with c|c
   ·subst c
    rw[csum_one xs h0,csum_one ys (by omega)]
    exact same_at h 0
   ·rw[csum_take xs k c (by omega),csum_take ys k c (by omega),cop_congr .add (ih c (by omega)) (same_at h k)]
 have:=key xs.length h0 (Nat.le_refl _)
 rw[List.take_of_length_le (Nat.le_refl _),List.take_of_length_le (by omega)] at this
 exact this
theorem fit_sum {op len C:Int}{la lb lc:Nat}(h:fitB op len C la lb lc=true)(h9:op=9):0<la:=by
 subst h9
 simp[fitB,shapeB,cnt,lenB] at h
 omega
theorem elem_congr {op C:Int}{K k:Nat}{xa xb xc ya yb yc:List Nat}(ha:same xa ya)(hb:same xb yb)(hc:same xc yc)(la:∀x∈xa,x<18446744073709551616)(la':∀x∈ya,x<18446744073709551616)(h9:op=9→0<xa.length):
  fb (elem op C K xa xb xc k)=fb (elem op C K ya yb yc k):=by
 unfold elem
 by_cases c:op=1
 ·rw[if_pos c,if_pos c]
 rw[if_neg c,if_neg c]
 clear c
 by_cases c:op=2
 ·rw[if_pos c,if_pos c]
  exact congrArg fb (cop_congr .add (same_at ha k) (same_at hb k))
 rw[if_neg c,if_neg c]
 clear c
 by_cases c:op=3
 ·rw[if_pos c,if_pos c]
  exact congrArg fb (cop_congr .sub (same_at ha k) (same_at hb k))
 rw[if_neg c,if_neg c]
 clear c
 by_cases c:op=4
 ·rw[if_pos c,if_pos c]
  exact congrArg fb (cop_congr .mul (same_at ha k) (same_at hb k))
 rw[if_neg c,if_neg c]
 clear c
 by_cases c:op=5
 ·rw[if_pos c,if_pos c]
  exact congrArg fb (cop_congr .quo (same_at ha k) (same_at hb k))
 rw[if_neg c,if_neg c]
 clear c
 by_cases c:op=6
 ·rw[if_pos c,if_pos c]
  exact neg_congr (getD_lt la k) (getD_lt la' k) (same_at ha k)
 rw[if_neg c,if_neg c]
 clear c
 by_cases c:op=7
 ·rw[if_pos c,if_pos c]
  exact greater_congr (same_at ha k) (same_at hb k)
 rw[if_neg c,if_neg c]
 clear c
 by_cases c:op=8
 ·rw[if_pos c,if_pos c]
  exact chosen_congr (same_at ha k) (same_at hb k) (same_at hc k)
 rw[if_neg c,if_neg c]
 clear c
 by_cases c:op=9
 ·rw[if_pos c,if_pos c]
  exact csum_congr ha (h9 c)
 rw[if_neg c,if_neg c]
 clear c
 by_cases c:op=10
 ·rw[if_pos c,if_pos c]
  exact same_at ha 0
 rw[if_neg c,if_neg c]
 clear c
 by_cases c:op=11
 ·rw[if_pos c,if_pos c]
  exact same_at ha _
 rw[if_neg c,if_neg c]
 clear c
 by_cases c:op=12
 ·rw[if_pos c,if_pos c]
  by_cases d:k=C.toNat
  ·rw[if_pos d,if_pos d]
   exact same_at ha 0
  ·rw[if_neg d,if_neg d]
 rw[if_neg c,if_neg c]
 exact exp_congr (same_at ha k)
theorem kern_congr {op len C:Int}{K:Nat}{xa xb xc ya yb yc:List Nat}(ha:same xa ya)(hb:same xb yb)(hc:same xc yc)(la:∀x∈xa,x<18446744073709551616)(la':∀x∈ya,x<18446744073709551616):
  same (kern op len C K xa xb xc) (kern op len C K ya yb yc):=by
 unfold kern
 rw[←same_len ha,←same_len hb,←same_len hc]
 cases hf:fitB op len C xa.length xb.length xc.length
 ·rfl
 ·rw[if_pos rfl,if_pos rfl]
  refine same_of (by simp) fun k hk=>?_
  have hk':k<len.toNat:=by simpa using hk
  have e:=elem_congr (op:=op) (C:=C) (K:=K) (k:=k) ha hb hc la la' (fun h9=>fit_sum hf h9)
  simpa[List.getD_eq_getElem?_getD,hk'] using e
theorem same_trans {xs ys zs:List Nat}(h:same xs ys)(h':same ys zs):same xs zs:=Eq.trans h h'
theorem same_symm {xs ys:List Nat}(h:same xs ys):same ys xs:=Eq.symm h
def one (xss:List (List Nat))(v:Vl)(Vs:List (List Nat)):List Nat:=
 if v.op=0 then xss.getD v.a.toNat [] else
  kern v.op v.len v.c v.k (if 0<cnt v.op then Vs.getD v.a.toNat [] else[]) (if 1<cnt v.op then Vs.getD v.b.toNat [] else[]) (if 2<cnt v.op then Vs.getD v.c.toNat [] else[])
def inB (ins:List Int)(xss:List (List Nat)):Bool:=decide (xss.length=ins.length)&&(List.range ins.length).all fun i=>((xss.getD i []).length:Int)==ins.getD i 0
theorem kern_len {op len C:Int}{K:Nat}{xa xb xc:List Nat}(h:fitB op len C xa.length xb.length xc.length=true):(kern op len C K xa xb xc).length=len.toNat:=by
 unfold kern;rw[if_pos h];simp
end Go.Proofs.YtgamjhpebmmjcaaGreatDoor
namespace Go.Proofs.YtgamjhpebmmjcaaGreatDoor
set_option maxRecDepth 100000
set_option maxHeartbeats 40000000
open Go.RowKit Flt
attribute [local go_sem] alloc_drewN setCell_drewN run_store_float
theorem inputsFit (w:World)(lo hi:Nat)(a b:Option Addr)(n m ca cb:Nat)(ins:List Int)(xss:List (List Nat))(f:IS w lo hi a n ins)(g:SS w b m xss)(hn:n≤1099511627776):
  Calls Tryz.prog 45 #[.slice a n ca,.slice b m cb] w fun e w'=>e=.returned (.bool (inB ins xss))∧Drawn w w':=by
 have HF:Hid _:=f
 have HG:Hid _:=g
 have HL:Hid (ins.length=n∧xss.length=m):=⟨f.len,g.len⟩
 clear f g
 by_cases hnm:m=n
 ·subst hnm
  go_enter Tryz.func45,Tryz.ntmps45
  go_wp2_with fail
  go_loop [14] (fun i=>∃k:Nat,k≤m∧i=.int .i64 k∧Hid ((List.range k).all (fun i=>((xss.getD i []).length:Int)==ins.getD i 0)=true)) (fun i=>m-(intOf i).toNat)
  case atStart=>exact⟨0,Nat.zero_le _,rfl,rfl⟩
  case round=>
   obtain⟨k,hk,rfl,hA⟩:=hrel
   by_cases hlt:k<m
   ·rcases HF.out.at_ with z0|⟨ga,oa,ea,z1,z2,z3,z4⟩
    ·omega
    rcases HG.out.at_ with z0|⟨gb,ob,eb,y1,y2⟩
    ·omega
    have c1:=z4 k hlt
    obtain⟨b2,cc2,c2,_,_⟩:=y2 k hlt
    subst ea eb
    clear z1 z2 z3 z4 y1 y2
    cases hx:(((xss.getD k []).length:Int)==ins.getD k 0)
    ·have R:Hid (inB ins xss=false):=by
      show inB ins xss=false
      unfold inB
      rw[HL.out.1,range_bad (p:=fun i=>((xss.getD i []).length:Int)==ins.getD i 0) hlt hx,Bool.and_false]
     have hx':(((xss.getD k []).length:Int) !=ins.getD k 0)=true:=by rw[bne,hx];rfl
     generalize (xss.getD k []).length=y at c2 hx'
     generalize ins.getD k 0=x at c1 hx'
     clear hx hA
     go_wp2
     go_ret
     exact⟨by rw[R.out];rfl,Drawn.refl _⟩
    ·have R:Hid _:=range_snoc (p:=fun i=>((xss.getD i []).length:Int)==ins.getD i 0) hA.out hx
     have hx':(((xss.getD k []).length:Int) !=ins.getD k 0)=false:=by rw[bne,hx];rfl
     generalize (xss.getD k []).length=y at c2 hx'
     generalize ins.getD k 0=x at c1 hx'
     clear hx hA
     go_wp2
     go_round
     case rel=>exact⟨k+1,by omega,by go_num,R⟩
     case measure=>simp[intOf];omega
   ·have R:Hid (inB ins xss=true):=by
     have h1:=hA.out
     rw[show k=m by omega] at h1
     show inB ins xss=true
     unfold inB
     rw[HL.out.1,HL.out.2,h1,decide_eq_true rfl];rfl
    clear hA
    go_wp2
    go_ret
    exact⟨by rw[R.out];rfl,Drawn.refl _⟩
 ·have e:inB ins xss=false:=by
   unfold inB
   rw[HL.out.1,HL.out.2,decide_eq_false hnm,Bool.false_and]
  rw[e]
  have t:((m:Int) !=(n:Int))=true:=by simp;omega
  go_enter Tryz.func45,Tryz.ntmps45
  go_wp2
  go_ret
  exact⟨rfl,Drawn.refl _⟩
theorem FO.of_own {W:World}{base n:Nat}{v:Value}{xs:List Nat}(h:W.ownsRow base 24 1 v n (xs.map (Value.float .f64)))(hn:0<n)(hl:xs.length=n)(hb:∀x∈xs,x<18446744073709551616):
  ∃g cap,v=.slice (some ⟨g,0,none⟩) n cap∧base≤g∧n≤cap∧FO W g n xs:=by
 rcases h.2 with⟨_,c⟩|⟨g,cap,cur,rfl,b1,b2,b3,_,b5,b6⟩
 ·omega
 ·have hg:g<W.heap.size:=by
   rcases Nat.lt_or_ge g W.heap.size with c|c
   ·exact c
   ·rw[Array.getElem?_eq_none c] at b2;cases b2
  refine⟨g,cap,rfl,b1,b3,hl,hb,hg,fun j hj=>?_,fun o=>frozen_of_row W g o _ _ b2⟩
  rw[cell_of_row W g _ cur _ _ b2,←Array.getElem?_toList]
  have:(cur.toList.take (n*1))[j]? =(xs.map (Value.float .f64))[j]?:=by rw[b6]
  rw[List.getElem?_take_of_lt (by omega)] at this
  rw[this,List.getElem?_map,List.getElem?_eq_getElem (by omega:j<xs.length)]
  simp[List.getD_eq_getElem?_getD,List.getElem?_eq_getElem (by omega:j<xs.length)]
theorem news_of {w:World}{g off n:Nat}{xs:List Nat}(hx:xs.length=n)(hc:∀k,k<n→w.cell? ⟨g,off+k,none⟩=some (.float .f64 (xs.getD k 0))):
  ∀j u,(xs.map (Value.float .f64))[j]? =some u→w.cell? ((⟨g,off,none⟩:Addr).add j)=some u:=fun j u hu=>by
 have hj:j<n:=by
  rcases Nat.lt_or_ge j n with c|c
  ·exact c
  ·rw[List.getElem?_eq_none (by simp;omega)] at hu;cases hu
 have h1:=hc j hj
 have e:(⟨g,off,none⟩:Addr).add j=⟨g,off+j,none⟩:=by
  unfold Addr.add
  split
  ·rename_i h0;rw[h0];rfl
  ·rfl
 rw[e,h1]
 rw[List.getElem?_map,List.getElem?_eq_getElem (by omega:j<xs.length)] at hu
 simp only[Option.map_some] at hu
 rw[←hu,List.getD_eq_getElem?_getD,List.getElem?_eq_getElem (by omega:j<xs.length)];rfl
theorem grown_kept {w w':World}{row:Option Nat}{base:Nat}(h:w.grownBy w' row)(hr:∀k,row=some k→base≤k){w0:World}(k:Kept 0 0 w0 w)(hb:w0.heap.size≤base):Kept 0 0 w0 w':=
 ⟨h.os.trans k.os,h.tape.trans k.tape,h.output.trans k.output,Nat.le_trans k.size h.size,fun i hi _=>by
  rw[h.block i (Nat.lt_of_lt_of_le hi k.size) (fun c=>by have:=hr i c.symm;omega)]
  exact k.block i hi (by omega)⟩
theorem clone (w:World)(g off n c:Nat)(xs:List Nat)(hn:1≤n)(hn2:n≤1000000)(hg:g<w.heap.size)(hx:xs.length=n)(hlt:∀x∈xs,x<18446744073709551616)(hc:∀k,k<n→w.cell? ⟨g,off+k,none⟩=some (.float .f64 (xs.getD k 0))):
  Calls Tryz.prog 47 #[.slice (some ⟨g,off,none⟩) n c] w fun e w'=>∃G cap,e=.returned (.slice (some ⟨G,0,none⟩) n cap)∧n≤cap∧FO w' G n xs∧w.heap.size≤G∧Kept 0 0 w w':=by
 obtain⟨i0,hi,hz0,hz1,hz2⟩:=info_parts infoF
 have heq:(binOp .eql 33 (.slice (some ⟨g,off,none⟩) n c) (.slice none 0 0)).run Tryz.prog w=.ok (.bool false) w:=by
  simp only[binOp]
  simp[run_equal_slice_nil w 33 24 (some ⟨g,off,none⟩) n c Tryz.underlying33]
 have ka:=kept_alloc 0 0 w (.cells #[] 24)
 have HN:Hid _:=news_of (w:=w.alloc (.cells #[] 24)) (g:=g) (off:=off) hx (fun k hk=>kcell ka hg (hc k hk))
 have HO:Hid _:=World.ownsRow_made (base:=w.heap.size) (e:=24) (size:=1) w #[] 0 (Nat.le_refl _) (by unfold maxLen;omega) rfl
 have HKA:Hid _:=ka
 have HX:Hid (xs.length=n):=hx
 have HLT:Hid _:=hlt
 clear hc hx hlt ka
 go_enter Tryz.func47,Tryz.ntmps47
 go_wp2_with (first|(at_builtin;refine wpList_append_own _ rfl _ _ 33 rfl w.heap.size 24 i0 (.float .f64 0) 1 8 Tryz.underlying33 hi hz0 hz1 hz2 rfl (by decide) _ _ _ rfl HO.out ⟨g,off,none⟩ n c (xs.map (Value.float .f64)) rfl ?c0 HN.out ?c2 ?c3 ?c4 ?c5 ?_))
 case c0=>exact HX.out
 case c2=>intro u hu;rfl
 case c3=>unfold maxLen;omega
 case c4=>omega
 intro v' w9 hown9 hg9 _
 obtain⟨G,cap,rfl,b1,b2,b3⟩:=FO.of_own hown9 (by omega) HX.out HLT.out
 have R:Hid _:=grown_kept (base:=w.heap.size) hg9 (fun k hk=>by have:w.heap.size=k:=by simpa[Value.ownBlock] using hk
                                                                omega) HKA.out (Nat.le_refl _)
 clear hown9 hg9
 go_wp2
 go_ret
 exact⟨G,cap,rfl,b2,b3,b1,R.out⟩
def Cl (w:World)(v:Value)(xs:List Nat):Prop:=∃b n c zs,v=.slice b n c∧n≤c∧FS w 0 w.heap.size b n zs∧same zs xs
theorem Cl.keep {w w':World}{v:Value}{xs:List Nat}(h:Cl w v xs)(k:Kept 0 0 w w'):Cl w' v xs:=by
 obtain⟨b,n,c,zs,h1,h2,h3,h4⟩:=h
 exact⟨b,n,c,zs,h1,h2,h3.keep0 k,h4⟩
theorem Cl.nil (w:World):Cl w (.slice none 0 0) []:=⟨none,0,0,[],rfl,Nat.le_refl _,⟨rfl,by simp,.inl rfl⟩,rfl⟩
def Cn (w:World)(lo:Nat)(v:Value)(xs:List Nat):Prop:=∃b n c zs,v=.slice b n c∧n≤c∧FS w lo w.heap.size b n zs∧same zs xs
theorem Cn.cl {w:World}{lo:Nat}{v:Value}{xs:List Nat}(h:Cn w lo v xs):Cl w v xs:=by
 obtain⟨b,n,c,zs,h1,h2,h3,h4⟩:=h
 exact⟨b,n,c,zs,h1,h2,h3.mono (Nat.zero_le _) (Nat.le_refl _),h4⟩
theorem implKernelN (w:World)(v:Vl)(hK:v.k<18446744073709551616)(x y z:Value)(xa xb xc:List Nat)(ha:Cl w x xa)(hb:Cl w y xb)(hc:Cl w z xc)(la:∀q∈xa,q<18446744073709551616):
  Calls Tryz.prog 141 #[v.agg,x,y,z] w fun e w'=>∃u,e=.returned u∧Cn w' w.heap.size u (kern v.op v.len v.c v.k xa xb xc)∧Kept 0 0 w w':=by
 obtain⟨a,na,ca,za,rfl,a1,a2,a3⟩:=ha
 obtain⟨b,nb,cb,zb,rfl,b1,b2,b3⟩:=hb
 obtain⟨c,nc,cc,zc,rfl,c1,c2,c3⟩:=hc
 refine(implKernel' w v.op v.len v.a v.b v.c v.k hK a2 b2 c2 a1).mono ?_
 rintro e w' ⟨a',n,cap,zs,rfl,ho,hs,hk,hn⟩
 exact⟨_,rfl,⟨a',n,cap,zs,rfl,hn,ho.fs,same_trans hs (kern_congr a3 b3 c3 a2.lt la)⟩,hk⟩
theorem cop_lt (op:BinOp)(x y:Nat):cop op x y<18446744073709551616:=by
 unfold cop
 cases h:floatBits op .f64 x y with
 |none=>decide
 |some r=>
  have:=floatBits_wf h
  simpa[Lit.wf] using this
theorem cexp_lt {x:Nat}(hx:x<18446744073709551616):cexp x<18446744073709551616:=by
 unfold cexp
 split
 ·exact hx
 ·split
  ·decide
  ·split
   ·decide
   ·exact cop_lt _ _ _
theorem fold_lt:∀(xs:List Nat) (x:Nat),x<18446744073709551616→xs.foldl (cop .add) x<18446744073709551616
 |[],_,h=>h
 |y::ys,x,_=>fold_lt ys (cop .add x y) (cop_lt _ _ _)
theorem csum_lt {xs:List Nat}(h:∀x∈xs,x<18446744073709551616):csum xs<18446744073709551616:=by
 cases xs with
 |nil=>decide
 |cons x r=>exact fold_lt r x (h x (by simp))
theorem ite_b {p:Prop}[Decidable p]{x y:Nat}(hx:x<18446744073709551616)(hy:y<18446744073709551616):(if p then x else y)<18446744073709551616:=by
 split
 ·exact hx
 ·exact hy
theorem elem_lt {op C:Int}{K:Nat}{xa xb xc:List Nat}(hK:K<18446744073709551616)(ha:∀x∈xa,x<18446744073709551616)(hb:∀x∈xb,x<18446744073709551616)(hc:∀x∈xc,x<18446744073709551616)(k:Nat):elem op C K xa xb xc k<18446744073709551616:=by
 have a0:=getD_lt ha
 have b0:=getD_lt hb
 have c0:=getD_lt hc
 unfold elem greaterN chosenN
 exact ite_b hK (ite_b (cop_lt _ _ _) (ite_b (cop_lt _ _ _) (ite_b (cop_lt _ _ _) (ite_b (cop_lt _ _ _) (ite_b (negf_lt (a0 _)) (ite_b (ite_b (a0 _) (b0 _)) (ite_b (ite_b (b0 _) (c0 _)) (ite_b (csum_lt ha) (ite_b (a0 _) (ite_b (a0 _) (ite_b (ite_b (a0 _) (by decide)) (cexp_lt (a0 _)))))))))))))
theorem kern_lt {op len C:Int}{K:Nat}{xa xb xc:List Nat}(hK:K<18446744073709551616)(ha:∀x∈xa,x<18446744073709551616)(hb:∀x∈xb,x<18446744073709551616)(hc:∀x∈xc,x<18446744073709551616):∀x∈kern op len C K xa xb xc,x<18446744073709551616:=by
 unfold kern
 split
 ·intro x hx
  obtain⟨k,_,rfl⟩:=List.mem_map.1 hx
  exact elem_lt hK ha hb hc k
 ·intro x hx;cases hx
def Words (xss:List (List Nat)):Prop:=∀k,∀x∈xss.getD k [],x<18446744073709551616
theorem ite_lt {p:Prop}[Decidable p]{xs:List Nat}(h:∀x∈xs,x<18446744073709551616):∀x∈(if p then xs else[]),x<18446744073709551616:=by
 split
 ·exact h
 ·intro x hx;cases hx
end Go.Proofs.YtgamjhpebmmjcaaGreatDoor
namespace Go.Proofs.YtgamjhpebmmjcaaGreatDoor
set_option maxRecDepth 100000
set_option maxHeartbeats 40000000
open Go.RowKit Flt
theorem kern_K {op:Int}(h:op≠1)(len C:Int)(K K':Nat)(xa xb xc:List Nat):kern op len C K xa xb xc=kern op len C K' xa xb xc:=by
 unfold kern
 have:elem op C K xa xb xc=elem op C K' xa xb xc:=by
  funext k
  unfold elem
  rw[if_neg h,if_neg h]
 rw[this]
def argL (news:List Vl)(o:Int):List Nat:=List.replicate (news.getD o.toNat Vl.zero).len.toNat (news.getD o.toNat Vl.zero).k
def foldB (news:List Vl)(v:Vl):Bool:=decide (0<cnt v.op)&&(opsOf v).all fun o=>(news.getD o.toNat Vl.zero).op==1
def foldR (news:List Vl)(v:Vl):List Nat:=kern v.op v.len v.c v.k (if 0<cnt v.op then argL news v.a else[]) (if 1<cnt v.op then argL news v.b else[]) (if 2<cnt v.op then argL news v.c else[])
def uni (r:List Nat):Bool:=decide (0<r.length)&&r.all fun x=>fb x==fb (r.getD 0 0)
def foldV (news:List Vl)(v:Vl):Vl:=if foldB news v=true∧uni (foldR news v)=true then⟨1,v.len,0,0,0,(foldR news v).getD 0 0⟩ else v
def foldSt (vs:List Vl):Nat→List Vl
 |0=>[]
 |i+1=>foldSt vs i++[foldV (foldSt vs i) (vs.getD i Vl.zero)]
theorem foldSt_len (vs:List Vl):∀i,(foldSt vs i).length=i
 |0=>rfl
 |i+1=>by rw[foldSt,List.length_append,foldSt_len vs i];rfl
theorem all_getD {r:List Nat}{p:Nat→Bool}:r.all p=true↔∀k,k<r.length→p (r.getD k 0)=true:=by
 rw[List.all_eq_true]
 constructor
 ·intro h k hk
  rw[List.getD_eq_getElem?_getD,List.getElem?_eq_getElem hk]
  exact h _ (List.getElem_mem _)
 ·intro h x hx
  obtain⟨k,hk,rfl⟩:=List.getElem_of_mem hx
  have:=h k hk
  rw[List.getD_eq_getElem?_getD,List.getElem?_eq_getElem hk] at this
  exact this
theorem uni_congr {r s:List Nat}(h:same r s):uni r=uni s:=by
 have hl:=same_len h
 unfold uni
 rw[hl]
 congr 1
 rw[Bool.eq_iff_iff,all_getD,all_getD,hl]
 have e:=same_at h
 constructor
 ·intro q k hk
  have:=q k hk
  rw[e k,e 0] at this
  exact this
 ·intro q k hk
  rw[e k,e 0]
  exact q k hk
theorem argL_same {us vs:List Vl}(h:Lk us vs)(o:Int):same (argL us o) (argL vs o):=by
 have e:=h.at_ o.toNat
 unfold argL
 generalize us.getD o.toNat Vl.zero=u at*
 generalize vs.getD o.toNat Vl.zero=v at*
 unfold cv at e
 injection e with e1 e2 e3 e4 e5 e6
 unfold same
 rw[e2,List.map_replicate,List.map_replicate,e6]
theorem argL_lt {us:List Vl}(h:Kb us)(o:Int):∀x∈argL us o,x<18446744073709551616:=by
 intro x hx
 unfold argL at hx
 rw[List.eq_of_mem_replicate hx]
 exact h.at_ _
theorem foldR_same {us vs:List Vl}{u v:Vl}(h:Lk us vs)(hv:cv u=cv v)(k1:Kb us)(k2:Kb vs)(hc:0<cnt u.op):same (foldR us u) (foldR vs v):=by
 unfold foldR
 unfold cv at hv
 injection hv with e1 e2 e3 e4 e5 e6
 have h1:u.op≠1:=fun c=>by rw[c] at hc;exact absurd hc (by decide)
 rw[←e1,←e2,←e3,←e4,←e5,kern_K h1 u.len u.c v.k u.k]
 have key:∀(q:Prop) [Decidable q] (o:Int),same (if q then argL us o else[]) (if q then argL vs o else[]):=fun q _ o=>by
  by_cases c:q
  ·rw[if_pos c,if_pos c];exact argL_same h o
  ·rw[if_neg c,if_neg c];rfl
 refine kern_congr (key _ _) (key _ _) (key _ _) ?_ ?_
 ·rw[if_pos hc];exact argL_lt k1 _
 ·rw[if_pos hc];exact argL_lt k2 _
theorem foldB_congr {us vs:List Vl}{u v:Vl}(h:Lk us vs)(hv:cv u=cv v):foldB us u=foldB vs v:=by
 unfold cv at hv
 injection hv with e1 e2 e3 e4 e5 e6
 have eo:opsOf u=opsOf v:=by unfold opsOf;rw[e1,e3,e4,e5]
 unfold foldB
 rw[e1,eo]
 congr 1
 congr 1
 funext o
 have:=congrArg Vl.op (h.at_ o.toNat)
 have e:(us.getD o.toNat Vl.zero).op=(vs.getD o.toNat Vl.zero).op:=this
 rw[e]
theorem foldV_lk {us vs:List Vl}{u v:Vl}(h:Lk us vs)(hv:cv u=cv v)(k1:Kb us)(k2:Kb vs):cv (foldV us u)=cv (foldV vs v):=by
 unfold foldV
 rw[foldB_congr h hv]
 by_cases hb:foldB vs v=true
 ·have hc:0<cnt u.op:=by
   have:foldB us u=true:=by rw[foldB_congr h hv];exact hb
   unfold foldB at this
   rw[Bool.and_eq_true] at this
   exact of_decide_eq_true this.1
  have hs:=foldR_same h hv k1 k2 hc
  rw[uni_congr hs]
  by_cases hu:uni (foldR vs v)=true
  ·rw[if_pos ⟨hb,hu⟩,if_pos ⟨hb,hu⟩]
   unfold cv
   simp only
   rw[same_at hs 0]
   have:=congrArg Vl.len hv
   have e:u.len=v.len:=this
   rw[e]
  ·rw[if_neg (fun c=>hu c.2),if_neg (fun c=>hu c.2)];exact hv
 ·rw[if_neg (fun c=>hb c.1),if_neg (fun c=>hb c.1)];exact hv
theorem foldV_len (news:List Vl)(v:Vl):(foldV news v).len=v.len:=by
 unfold foldV;split<;>rfl
theorem foldSt_lenV (vs:List Vl):∀i j,j<i→((foldSt vs i).getD j Vl.zero).len=(vs.getD j Vl.zero).len
 |0,j,hj=>by omega
 |i+1,j,hj=>by
  have hl:=foldSt_len vs i
  rw[foldSt]
  by_cases c:j<i
  ·rw[getD_fstV _ _ (by rw[hl];exact c)];exact foldSt_lenV vs i j c
  ·have:j=i:=by omega
   subst this
   have:=getD_lastV (foldSt vs j) (foldV (foldSt vs j) (vs.getD j Vl.zero))
   rw[hl] at this
   rw[this]
   exact foldV_len _ _
theorem okV_const {ins:List Int}{vs:List Vl}{i:Nat}{len:Int}{k:Nat}(e:vs.getD i Vl.zero=⟨1,len,0,0,0,k⟩)(h:lenB len=true):okV ins vs i=true:=by
 unfold okV
 rw[e]
 simp only
 rw[h]
 rfl
theorem foldSt_ok {ins:List Int}{vs:List Vl}:∀i,(∀j,j<i→okV ins vs j=true)→∀j,j<i→okV ins (foldSt vs i) j=true
 |0,_,j,hj=>by omega
 |i+1,h,j,hj=>by
  have hl:=foldSt_len vs i
  have ih:=foldSt_ok (ins:=ins) (vs:=vs) i (fun j hj=>h j (by omega))
  rw[foldSt]
  by_cases c:j<i
  ·exact okV_app (by rw[hl];exact c) (ih j c)
  ·have:j=i:=by omega
   subst this
   have el:(foldSt vs j++[foldV (foldSt vs j) (vs.getD j Vl.zero)]).getD j Vl.zero=foldV (foldSt vs j) (vs.getD j Vl.zero):=by
    have:=getD_lastV (foldSt vs j) (foldV (foldSt vs j) (vs.getD j Vl.zero))
    rw[hl] at this
    exact this
   have ho:=h j (by omega)
   by_cases hb:foldB (foldSt vs j) (vs.getD j Vl.zero)=true∧uni (foldR (foldSt vs j) (vs.getD j Vl.zero))=true
   ·have e2:=el
    unfold foldV at e2
    rw[if_pos hb] at e2
    unfold foldV
    rw[if_pos hb]
    exact okV_const e2 (okV_lenB ho)
   ·have e2:foldV (foldSt vs j) (vs.getD j Vl.zero)=vs.getD j Vl.zero:=by unfold foldV;rw[if_neg hb]
    rw[e2] at el ⊢
    refine okV_of ho id (by rw[el]) (by rw[el]) (fun _=>by rw[el]) (fun _=>by rw[el]) (fun _=>by rw[el]) (by rw[el];simp) ?_
    intro o _ h0 h1
    refine⟨⟨h0,h1⟩,?_⟩
    rw[getD_fstV _ _ (by rw[hl];simp only[id];omega)]
    exact foldSt_lenV vs j o.toNat (by omega)
theorem foldM_ok {ins:List Int}{vs:List Vl}{outs:List Int}(h:okG ins vs outs=true):okG ins (foldSt vs vs.length) outs=true:=by
 obtain⟨h1,h2,h3,h4,h5⟩:=okG_parts h
 have l1:=foldSt_len vs vs.length
 refine okG_make ⟨h1.1,by rw[l1];exact h1.2.1,h1.2.2⟩ h2 (fun j hj=>foldSt_ok vs.length h3 j (by rw[←l1];exact hj)) (by rw[l1];exact h4) ?_
 rw[cellsV_eq _ vs l1 (fun j hj=>foldSt_lenV vs vs.length j (by rw[←l1];exact hj))]
 exact h5
def passM (p:Int)(vs:List Vl)(outs:List Int):List Vl×List Int:=
 if p=0 then deadM vs outs else if p=2 then (foldSt vs vs.length,outs) else eqM p vs outs
theorem passM_ok {ins:List Int}{vs:List Vl}{outs:List Int}(p:Int)(h:okG ins vs outs=true):okG ins (passM p vs outs).1 (passM p vs outs).2=true:=by
 unfold passM
 split
 ·exact deadM_ok h
 ·split
  ·exact foldM_ok h
  ·exact eqM_ok p h
theorem foldV_kb {news:List Vl}{v:Vl}(h:Kb news)(hv:v.k<18446744073709551616):(foldV news v).k<18446744073709551616:=by
 unfold foldV
 split
 ·exact getD_lt (kern_lt hv (ite_lt (argL_lt h _)) (ite_lt (argL_lt h _)) (ite_lt (argL_lt h _))) 0
 ·exact hv
theorem foldSt_kb {vs:List Vl}(h:Kb vs):∀i,Kb (foldSt vs i)
 |0=>by intro v hv;simp[foldSt] at hv
 |i+1=>by
  rw[foldSt]
  exact(foldSt_kb h i).app (foldV_kb (foldSt_kb h i) (h.at_ i))
theorem foldSt_lk {us vs:List Vl}(h:Lk us vs)(k1:Kb us)(k2:Kb vs):∀i,Lk (foldSt us i) (foldSt vs i)
 |0=>rfl
 |i+1=>by
  rw[foldSt,foldSt]
  exact(foldSt_lk h k1 k2 i).app (foldV_lk (foldSt_lk h k1 k2 i) (h.at_ i) (foldSt_kb k1 i) (foldSt_kb k2 i))
theorem passM_lk {us vs:List Vl}{outs:List Int}(p:Int)(h:Lk us vs)(k1:Kb us)(k2:Kb vs):Lk (passM p us outs).1 (passM p vs outs).1∧(passM p us outs).2=(passM p vs outs).2:=by
 unfold passM
 split
 ·exact deadM_lk h
 ·split
  ·rw[h.len]
   exact⟨foldSt_lk h k1 k2 _,rfl⟩
  ·exact eqM_lk p h
theorem eqSt_kb {vs:List Vl}(h:Kb vs)(p:Int):∀i,Kb (eqSt p vs i).1
 |0=>by intro v hv;simp[eqSt] at hv
 |i+1=>(eqSt_kb h p i).app (h.at_ i)
theorem dkSt_kb {vs:List Vl}(h:Kb vs)(F:List Bool):∀i,Kb (dkSt F vs i).1
 |0=>by intro v hv;simp[dkSt] at hv
 |i+1=>by
  rw[dkSt]
  split
  ·exact(dkSt_kb h F i).app (h.at_ i)
  ·exact dkSt_kb h F i
theorem passM_kb {vs:List Vl}{outs:List Int}(p:Int)(h:Kb vs):Kb (passM p vs outs).1:=by
 unfold passM
 split
 ·exact dkSt_kb h _ _
 ·split
  ·exact foldSt_kb h _
  ·exact eqSt_kb h p _
def optTo (vs:List Vl)(outs:List Int)(ps:List Int):Nat→List Vl×List Int
 |0=>(vs,outs)
 |k+1=>passM (ps.getD k 0) (optTo vs outs ps k).1 (optTo vs outs ps k).2
theorem optTo_ok {ins:List Int}{vs:List Vl}{outs:List Int}(ps:List Int)(h:okG ins vs outs=true):∀k,okG ins (optTo vs outs ps k).1 (optTo vs outs ps k).2=true
 |0=>h
 |k+1=>passM_ok _ (optTo_ok ps h k)
theorem optTo_kb {vs:List Vl}{outs:List Int}(ps:List Int)(h:Kb vs):∀k,Kb (optTo vs outs ps k).1
 |0=>h
 |k+1=>passM_kb _ (optTo_kb ps h k)
end Go.Proofs.YtgamjhpebmmjcaaGreatDoor
namespace Go.Proofs.YtgamjhpebmmjcaaGreatDoor
set_option maxRecDepth 100000
set_option maxHeartbeats 40000000
open Go.RowKit Flt
attribute [local go_sem] alloc_drewN setCell_drewN run_store_float
theorem FS.setS {w:World}{lo hi:Nat}{a:Option Addr}{n:Nat}{xs:List Nat}(f:FS w lo hi a n xs){g k:Nat}{u:Value}(hc:w.cell? ⟨g,k,none⟩=some u)(hu:∀x,u≠.float .f64 x)(v:Value):FS (w.setCell ⟨g,k,none⟩ v) lo hi a n xs:=
 ⟨f.len,f.lt,by
  rcases f.at_ with h0|⟨g',off,e,h1,h2,h3,h4⟩
  ·exact .inl h0
  ·refine .inr ⟨g',off,e,h1,h2,by simpa using h3,fun j hj=>?_⟩
   by_cases c:g=g'∧k=off+j
   ·obtain⟨rfl,rfl⟩:=c
    have:=h4 j hj
    rw[hc] at this
    injection this with this
    exact absurd this (hu _)
   ·rw[cell_ne _ _ _ _ _ _ (by omega)];exact h4 j hj⟩
theorem Cl.setS {w:World}{y:Value}{xs:List Nat}(f:Cl w y xs){g k:Nat}{u:Value}(hc:w.cell? ⟨g,k,none⟩=some u)(hu:∀x,u≠.float .f64 x)(v:Value):Cl (w.setCell ⟨g,k,none⟩ v) y xs:=by
 obtain⟨b,n,c,zs,h1,h2,h3,h4⟩:=f
 exact⟨b,n,c,zs,h1,h2,(h3.setS hc hu v).mono (Nat.le_refl _) (by simp),h4⟩
theorem not_float_slice (b:Option Addr)(n c:Nat):∀x,(Value.slice b n c)≠.float .f64 x:=fun _ h=>by cases h
structure LV (w:World)(g n k:Nat)(Vs:List (List Nat)):Prop where
 lt:g<w.heap.size
 free:∀o,w.frozen? ⟨g,o,none⟩=false
 at_:∀j,j<n→∃b m c,w.cell? ⟨g,j,none⟩=some (.slice b m c)∧(j<k→Cl w (.slice b m c) (Vs.getD j []))
theorem LV.keep {w w':World}{g n k:Nat}{Vs:List (List Nat)}(f:LV w g n k Vs)(q:Kept 0 0 w w'):LV w' g n k Vs:=
 ⟨Nat.lt_of_lt_of_le f.lt q.size,fun o=>by rw[q.frozen (p:=⟨g,o,none⟩) f.lt (by omega)];exact f.free o,fun j hj=>by
  obtain⟨b,m,c,h1,h2⟩:=f.at_ j hj
  exact⟨b,m,c,kcell q f.lt h1,fun h=>(h2 h).keep q⟩⟩
end Go.Proofs.YtgamjhpebmmjcaaGreatDoor
namespace Go.Proofs.YtgamjhpebmmjcaaGreatDoor
set_option maxRecDepth 100000
set_option maxHeartbeats 40000000
open Go.RowKit Flt
attribute [local go_sem] alloc_drewN setCell_drewN run_store_float
def opl (v:Vl)(Vs:List (List Nat))(q:Nat):List (List Nat):=[if 0<q then Vs.getD v.a.toNat [] else[],if 1<q then Vs.getD v.b.toNat [] else[],if 2<q then Vs.getD v.c.toNat [] else[]]
def kop (v:Vl)(Vs:List (List Nat)):List Nat:=kern v.op v.len v.c v.k ((opl v Vs (cnt v.op)).getD 0 []) ((opl v Vs (cnt v.op)).getD 1 []) ((opl v Vs (cnt v.op)).getD 2 [])
theorem opl_set (v:Vl)(Vs:List (List Nat)){q:Nat}(hq:q<3):(opl v Vs q).set q (Vs.getD ([v.a,v.b,v.c].getD q 0).toNat [])=opl v Vs (q+1):=by
 have:q=0∨q=1∨q=2:=by omega
 rcases this with rfl|rfl|rfl<;>simp[opl]
theorem opsOf_at (v:Vl){q:Nat}(hq:q<cnt v.op):(opsOf v).getD q 0=[v.a,v.b,v.c].getD q 0:=by
 unfold opsOf
 rw[List.getD_eq_getElem?_getD,List.getD_eq_getElem?_getD,List.getElem?_take_of_lt hq]
theorem LV.put {w w':World}{g n:Nat}{Vs:List (List Nat)}(f:LV w g n n Vs){j:Nat}(hj:j<n)(hl:Vs.length=n)(q:Kept 0 0 w w'){b:Option Addr}{m c:Nat}{x:List Nat}(hu:Cl w' (.slice b m c) x):
  LV (w'.setCell ⟨g,j,none⟩ (.slice b m c)) g n n (Vs.set j x):=by
 have f':=f.keep q
 obtain⟨b0,m0,c0,hc,_⟩:=f'.at_ j hj
 refine⟨by simpa using f'.lt,fun o=>by simp[f'.free o],fun i hi=>?_⟩
 by_cases e:i=j
 ·subst e
  refine⟨b,m,c,cell_eq _ _ _ _ _ hc,fun _=>?_⟩
  rw[List.getD_eq_getElem?_getD,List.getElem?_set,if_pos rfl,if_pos (by omega)]
  exact hu.setS hc (not_float_slice _ _ _) _
 ·obtain⟨b1,m1,c1,h1,h2⟩:=f'.at_ i hi
  refine⟨b1,m1,c1,by rw[cell_ne _ _ _ _ _ _ (.inr (Ne.symm e))];exact h1,fun h=>?_⟩
  rw[List.getD_eq_getElem?_getD,List.getElem?_set,if_neg (Ne.symm e),←List.getD_eq_getElem?_getD]
  exact(h2 h).setS hc (not_float_slice _ _ _) _
theorem LV.other {w:World}{g n k P j:Nat}{Vs:List (List Nat)}{u:Value}(f:LV w g n k Vs)(hne:P≠g)(hc:w.cell? ⟨P,j,none⟩=some u)(hu:∀x,u≠.float .f64 x)(v:Value):LV (w.setCell ⟨P,j,none⟩ v) g n k Vs:=by
 refine⟨by simpa using f.lt,fun o=>by simp[f.free o],fun i hi=>?_⟩
 obtain⟨b1,m1,c1,h1,h2⟩:=f.at_ i hi
 exact⟨b1,m1,c1,by rw[cell_ne _ _ _ _ _ _ (.inl hne)];exact h1,fun h=>(h2 h).setS hc hu _⟩
theorem arr_start (w:World):LV (w.alloc (.cells #[.slice none 0 0,.slice none 0 0,.slice none 0 0] 236)) w.heap.size 3 3 [[],[],[]] where
 lt:=by simp
 free:=fun o=>by simp
 at_:=fun j hj=>by
  have:j=0∨j=1∨j=2:=by omega
  refine⟨none,0,0,?_,fun _=>?_⟩
  ·rcases this with rfl|rfl|rfl<;>simp
  ·rcases this with rfl|rfl|rfl<;>exact Cl.nil _
theorem vbox_at (w:World)(v:Vl):At (w.alloc (vbox v.op v.len v.a v.b v.c v.k)) w.heap.size 0 v:=by
 refine⟨?_,?_,?_,?_,?_,?_⟩
 all_goals first|(go_simp;done)|(simp;done)
theorem elementsOf_op (w:World)(v:Vl)(h0:v.op≠0)(g n c m cb k:Nat)(b:Option Addr)(Vs:List (List Nat))(hL:LV w g n k Vs)(hkn:k≤n)(hk:v.k<18446744073709551616)(hW:Words Vs)(h1:(opsOf v).all (idxB · k)=true):
  Calls Tryz.prog 109 #[v.agg,.slice (some ⟨g,0,none⟩) n c,.slice b m cb] w fun e w'=>∃b' n' c',e=.returned (.slice b' n' c')∧Cn w' w.heap.size (.slice b' n' c') (kop v Vs)∧Kept 0 0 w w':=by
 have t:(v.op==0)=false:=beq_eq_false_iff_ne.2 h0
 have hc3:=cnt_le v.op
 have k1:=kept_alloc 0 0 w (vbox v.op v.len v.a v.b v.c v.k)
 have k2:=kept_alloc 0 0 (w.alloc (vbox v.op v.len v.a v.b v.c v.k)) (.cells #[.slice none 0 0,.slice none 0 0,.slice none 0 0] 236)
 have HA:Hid _:=arr_start (w.alloc (vbox v.op v.len v.a v.b v.c v.k))
 have HV:Hid _:=(vbox_at w v).keep (by simp) k2 (.inr (.inr (Nat.le_refl _)))
 have HL:Hid _:=hL.keep (k1.trans k2)
 have HK:Hid _:=k1.trans k2
 have HZ:Hid (w.heap.size+1<((w.alloc (vbox v.op v.len v.a v.b v.c v.k)).alloc (.cells #[.slice none 0 0,.slice none 0 0,.slice none 0 0] 236)).heap.size):=by show _<_;simp
 have HG:Hid (g<w.heap.size):=hL.lt
 have HW:Hid _:=hW
 have H1:Hid _:=h1
 clear h0 k1 k2 hL hW h1
 obtain⟨v0,v1,v2,v3,v4,v5⟩:=HV.out
 go_enter Tryz.func109,Tryz.ntmps109
 go_wp2_with fail
 clear v0 v1 v2 v3 v4 v5
 generalize ((w.alloc (vbox v.op v.len v.a v.b v.c v.k)).alloc (.cells #[.slice none 0 0,.slice none 0 0,.slice none 0 0] 236))=w1 at HA HV HL HK HZ ⊢
 refine(operandsOf _ v).mono ?_
 rintro e w2 ⟨G,rfl,hI,hG,k3⟩
 have HI:Hid _:=hI
 have hA2:LV w2 (w.heap.size+1) 3 3 (opl v Vs 0):=by
  have:=HA.out.keep k3
  rw[show(w.alloc (vbox v.op v.len v.a v.b v.c v.k)).heap.size=w.heap.size+1 by simp] at this
  exact this
 have hV2:=HV.out.keep (by have:=HZ.out;omega) k3 (.inr (.inr (Nat.le_refl _)))
 have hL2:=HL.out.keep k3
 have hK2:=HK.out.trans k3
 have HA2:Hid _:=hA2
 have HV2:Hid _:=hV2
 have HL2:Hid _:=hL2
 have HK2:Hid _:=hK2
 have HS2:Hid (w1.heap.size≤w2.heap.size):=k3.size
 clear hI hA2 hV2 hL2 hK2 k3 HA HV HL HK
 go_wp2_with fail
 go_loopw [21] (fun i W=>∃q:Nat,q≤cnt v.op∧i=.int .i64 q∧Hid (LV W (w.heap.size+1) 3 3 (opl v Vs q))∧Hid (At W w.heap.size 0 v)∧Hid (LV W g n k Vs)∧Hid (IS W w1.heap.size w2.heap.size (some ⟨G,0,none⟩) (cnt v.op) (opsOf v))∧Hid (Kept 0 0 w W)) (fun i _=>cnt v.op-(intOf i).toNat)
 case atStart=>exact⟨0,Nat.zero_le _,rfl,HA2,HV2,HL2,HI,HK2⟩
 case round=>
  obtain⟨q,hq,rfl,hA,hV,hL,hI,hK⟩:=hrel
  clear HA2 HV2 HL2 HI HK2
  by_cases hlt:q<cnt v.op
  ·rcases hI.out.at_ with z0|⟨ga,oa,ea,z1,z2,z3,z4⟩
   ·omega
   have c1:=z4 q hlt
   cases ea
   obtain⟨o,ho⟩:∃o:Nat,(opsOf v).getD q 0=o∧o<k:=by
    have h:=List.all_eq_true.1 H1.out ((opsOf v).getD q 0) (by
     rw[List.getD_eq_getElem?_getD,List.getElem?_eq_getElem (by rw[opsOf_len];exact hlt)]
     exact List.getElem_mem _)
    have:=of_decide_eq_true h
    exact⟨((opsOf v).getD q 0).toNat,by omega,by omega⟩
   rw[ho.1,Nat.zero_add] at c1
   obtain⟨b1,m1,d1,c2,c3⟩:=hL.out.at_ o (by omega)
   have c4:=c3 ho.2
   obtain⟨b0,m0,d0,c5,_⟩:=hA.out.at_ q (by omega)
   have fz:=hA.out.free q
   have R1:Hid (LV (wr.setCell ⟨w.heap.size+1,q,none⟩ (.slice b1 m1 d1)) (w.heap.size+1) 3 3 (opl v Vs (q+1))):=by
    have:=hA.out.put (j:=q) (by omega) rfl (Kept.refl _ _ _) c4
    rw[←opl_set v Vs (by omega),←opsOf_at v hlt,ho.1]
    exact this
   have kp:Kept (w.heap.size+1) (w.heap.size+2) wr (wr.setCell ⟨w.heap.size+1,q,none⟩ (.slice b1 m1 d1)):=kept_setCell _ _ _ (.inl ⟨Nat.le_refl _,Nat.lt_succ_self _⟩)
   have R2:Hid _:=hV.out.keep (by have:=hA.out.lt;omega) kp (.inl (by omega))
   have R3:Hid _:=hL.out.other (by have:=HG.out;omega) c5 (not_float_slice _ _ _) (.slice b1 m1 d1)
   have R4:Hid _:=hI.out.keep kp (.inr (.inl (by have:=HZ.out;omega)))
   have R5:Hid _:=hK.out.new kp (by omega)
   have hq3:q<3:=by omega
   have hon:o<n:=by omega
   clear z1 z2 z3 z4 c3 c4 kp hA hV hL hI hK H1 ho
   go_wp2
   go_roundw
   case rel=>exact⟨q+1,by omega,by go_num,R1,R2,R3,R4,R5⟩
   case measure=>simp[intOf];omega
  ·obtain rfl:q=cnt v.op:=by omega
   obtain⟨b0,m0,d0,c0,e0⟩:=hA.out.at_ 0 (by omega)
   obtain⟨b1,m1,d1,c1,e1⟩:=hA.out.at_ 1 (by omega)
   obtain⟨b2,m2,d2,c2,e2⟩:=hA.out.at_ 2 (by omega)
   have HE:Hid _:=implKernelN wr v hk _ _ _ _ _ _ (e0 (by omega)) (e1 (by omega)) (e2 (by omega)) (ite_lt (HW.out _))
   obtain⟨v0,v1,v2,v3,v4,v5⟩:=hV.out
   clear e0 e1 e2 hA hL hI
   go_wp2_with fail
   refine Calls.mono HE.out ?_
   rintro e w9 ⟨u,rfl,hc9,k9⟩
   obtain⟨b9,n9,c9,zs,rfl,h2,h3,h4⟩:=hc9
   have R:Hid _:=hK.out.trans k9
   have R2:Hid (Cn w9 w.heap.size (.slice b9 n9 c9) (kop v Vs)):=⟨b9,n9,c9,zs,rfl,h2,h3.mono hK.out.size (Nat.le_refl _),h4⟩
   clear HE c0 c1 c2 v0 v1 v2 v3 v4 v5 h2 h3 h4 k9 hK hV
   go_wp2
   go_ret
   exact⟨b9,n9,c9,rfl,R2.out,R.out⟩
end Go.Proofs.YtgamjhpebmmjcaaGreatDoor
namespace Go.Proofs.YtgamjhpebmmjcaaGreatDoor
set_option maxRecDepth 100000
set_option maxHeartbeats 40000000
open Go.RowKit Flt
attribute [local go_sem] alloc_drewN setCell_drewN run_store_float
structure DI (W w4:World)(T n2 base gk cap:Nat)(S:List Vl×List Int):Prop where
 tq:IR W T S.2
 tl:S.2.length=n2
 own:W.ownsRow base 87 6 (.slice (some ⟨gk,0,none⟩) S.1.length cap) S.1.length (flat S.1)
 ch:Chg (fun b=>b=T∨base≤b) w4 W
 bz:base≤W.heap.size
theorem dkSt_len (F:List Bool)(vs:List Vl):∀i,(dkSt F vs i).2.length=vs.length∧(dkSt F vs i).1.length≤i
 |0=>⟨by simp[dkSt],Nat.le_refl _⟩
 |i+1=>by
  obtain⟨h1,h2⟩:=dkSt_len F vs i
  rw[dkSt]
  split
  ·exact⟨by simp[h1],by simp;omega⟩
  ·exact⟨h1,by omega⟩
theorem DI.stay {W W' w4:World}{T n2 base gk cap:Nat}{S:List Vl×List Int}(f:DI W w4 T n2 base gk cap S)(k:Kept 0 0 W W'):DI W' w4 T n2 base gk cap S:=
 ⟨f.tq.keep k (.inr (.inr (Nat.le_refl _))),f.tl,own_keepJ f.own k,Chg.trans f.ch k.chg,Nat.le_trans f.bz k.size⟩
theorem DI.next {W W' W7 w9 w4:World}{T n2 base gk cap i g9 cap9:Nat}{S:List Vl×List Int}{x:Int}{nv:Vl}{o:Obj}(f:DI W w4 T n2 base gk cap S)(k:Kept 0 0 W W')(k7:Kept 0 0 (W'.setCell ⟨T,i,none⟩ (.int .i64 x)) W7)(hT:T<base)
  (hown:w9.ownsRow base 87 6 (.slice (some ⟨g9,0,none⟩) (S.1.length+1) cap9) (S.1.length+1) (flat S.1++nv.cells)) (hg:(W7.alloc o).grownBy w9 (some gk)) (hgk:base≤gk):DI w9 w4 T n2 base g9 cap9 (S.1++[nv],S.2.set i x):=by
 have kq:=kept_setCell (lo:=T) (hi:=T+1) W' ⟨T,i,none⟩ (.int .i64 x) (.inl ⟨Nat.le_refl _,Nat.lt_succ_self _⟩)
 have ka:=kept_alloc 0 0 W7 o
 have t1:=(((f.tq.keep k (.inr (.inr (Nat.le_refl _)))).set i x).keep k7 (.inr (.inr (Nat.le_refl _)))).keep ka (.inr (.inr (Nat.le_refl _)))
 have cg:Chg (fun b=>b=gk) (W7.alloc o) w9:=⟨hg.os,hg.tape,hg.output,hg.size,fun q hq hn=>hg.block q hq (fun c=>hn (Option.some.inj c))⟩
 refine⟨t1.keepC cg (by omega),by simp[f.tl],?_,?_,?_⟩
 ·rw[List.length_append,List.length_singleton,flat_append,flat_one];exact hown
 ·refine Chg.trans f.ch (Chg.trans k.chg (Chg.trans (kq.chg1 (.inl rfl)) (Chg.trans k7.chg (Chg.trans ka.chg (cg.mono fun b _ c=>.inr (by omega))))))
 ·have h1:=f.bz
  have h2:=k.size
  have h3:=kq.size
  have h4:=k7.size
  have h5:=ka.size
  have h6:=cg.size
  omega
theorem rb_box (w:World)(b0 b1 b2:Value):RB (w.alloc (.cells #[b0,b1,b2] 59)) w.heap.size b0 b1 b2:=by
 refine⟨?_,?_,?_,?_,?_,?_,?_⟩
 all_goals first|(go_simp;done)|(simp;done)
theorem dk_true {F:List Bool}{vs:List Vl}{i:Nat}(h:F.getD i false=true):dkSt F vs (i+1)=((dkSt F vs i).1++[rnm ((dkSt F vs i).2.set i (dkSt F vs i).1.length) (vs.getD i Vl.zero)],(dkSt F vs i).2.set i (dkSt F vs i).1.length):=by
 rw[dkSt,if_pos h]
theorem dk_false {F:List Bool}{vs:List Vl}{i:Nat}(h:F.getD i false=false):dkSt F vs (i+1)=dkSt F vs i:=by
 rw[dkSt,if_neg (by rw[h];simp)]
end Go.Proofs.YtgamjhpebmmjcaaGreatDoor
namespace Go.Proofs.YtgamjhpebmmjcaaGreatDoor
set_option maxRecDepth 100000
set_option maxHeartbeats 40000000
open Go.RowKit Flt
inductive EOK:Ex→Prop
 |num (t:Tok):EOK (.num t)
 |name (t:Tok):EOK (.name t)
 |neg (o:Tok) {e:Ex}:EOK e→EOK (.neg o e)
 |bin (o:Tok) {a b:Ex}:EOK a→EOK b→EOK (.bin o a b)
 |call (t:Tok) {es:List Ex}:(∀e∈es,EOK e)→EOK (.call t es)
 |key1 (k:Tok) {e:Ex}:EOK e→EOK (.key1 k e)
 |key2 (k:Tok) {a b:Ex}:EOK a→EOK b→EOK (.key2 k a b)
 |key3 (k:Tok) {a b c:Ex}:EOK a→EOK b→EOK c→EOK (.key3 k a b c)
 |keyN (k:Tok) {e:Ex} {n:Tok}:EOK e→Dgs n.text→EOK (.keyN k e n)
 |put (k:Tok) {e:Ex} {i n:Tok}:EOK e→Dgs i.text→Dgs n.text→EOK (.put k e i n)
 |grad (k:Tok) {e:Ex} (x:Tok):EOK e→EOK (.grad k e x)
 |jvp (k:Tok) {e d:Ex} (x:Tok):EOK e→EOK d→EOK (.jvp k e x d)
def BOK (n:Nat):Bdg→Prop
 |.val _ v=>v<n
 |.fn _ _ e=>EOK e
def NmOK (st:LSt):Prop:=∀b∈st.names,BOK st.vs.length b
theorem BOK.le {n m:Nat}(h:n≤m){b:Bdg}(k:BOK n b):BOK m b:=by
 cases b with
 |val _ v=>exact Nat.lt_of_lt_of_le k h
 |fn _ _ _=>exact k
end Go.Proofs.YtgamjhpebmmjcaaGreatDoor
