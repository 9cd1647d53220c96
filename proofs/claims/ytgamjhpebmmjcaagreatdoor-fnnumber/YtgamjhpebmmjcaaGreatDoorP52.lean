import Derived.Test.YtgamjhpebmmjcaaGreatDoorP02
import Derived.Test.YtgamjhpebmmjcaaGreatDoorP44
import Derived.Test.YtgamjhpebmmjcaaGreatDoorP50
import Derived.ArgAppend
import Derived.Lib.SmallJoins
import Derived.Test.YtgamjhpebmmjcaaGreatDoorP12
import Derived.Test.YtgamjhpebmmjcaaGreatDoorP45
import Derived.Test.YtgamjhpebmmjcaaGreatDoorP20
import Derived.Test.YtgamjhpebmmjcaaGreatDoorP51
import Derived.Test.YtgamjhpebmmjcaaGreatDoorCards
import Derived.Test.YtgamjhpebmmjcaaGreatDoorTie
import Derived.SevenTiedAt
namespace Go.Proofs.YtgamjhpebmmjcaaGreatDoor
set_option maxRecDepth 100000
set_option maxHeartbeats 40000000
open Go.RowKit Flt
theorem W0n (s:Bool){r:Nat}(h0:0<r)(h:r≤9218868437227405312):(FloatKind.f64.format.order (W s r) 0==some .eq)=false:=by
 rw[show FloatKind.f64.format.order (W s r) 0=_ from ord_zero h0 h];cases s<;>rfl
theorem sameFn (x y:Nat)(w:World)(hx:x<18446744073709551616)(hy:y<18446744073709551616):
  Calls Tryz.prog 7 #[.float .f64 x,.float .f64 y] w fun e w'=>e=.returned (.bool ((fb x:Int)==(fb y:Int)))∧w'=w:=by
 obtain⟨s,r,hr,rfl⟩:=split_word x hx
 obtain⟨t,q,hq,rfl⟩:=split_word y hy
 clear hx hy
 by_cases h1:r≤9218868437227405312
 ·have n1:=isn_num (s:=s) h1
  by_cases h2:q≤9218868437227405312
  ·have n2:=isn_num (s:=t) h2
   rw[fb_num h1,fb_num h2,W_beq hr hq]
   by_cases hz:r=0∧q=0
   ·obtain⟨rfl,rfl⟩:=hz
    have a1:FloatKind.f64.format.order (W s 0) 0=some .eq:=ord_zero_zero
    have a2:FloatKind.f64.format.order (W t 0) 0=some .eq:=ord_zero_zero
    have b1:=fun w=>run_float_arith (P:=Tryz.prog) w .quo 24 .f64 4607182418800017408 (W s 0) (W s 9218868437227405312) one_over_zero
    have b2:=fun w=>run_float_arith (P:=Tryz.prog) w .quo 24 .f64 4607182418800017408 (W t 0) (W t 9218868437227405312) one_over_zero
    have c1:FloatKind.f64.format.order (W s 9218868437227405312) 0=some (if s then .lt else .gt):=ord_zero (by omega) (by omega)
    have c2:FloatKind.f64.format.order (W t 9218868437227405312) 0=some (if t then .lt else .gt):=ord_zero (by omega) (by omega)
    cases s<;>cases t
    all_goals
     go_enter Tryz.func7,Tryz.ntmps7
     go_wp2
     go_ret
     exact⟨rfl,rfl⟩
   ·have hE:(FloatKind.f64.format.order (W s r) (W t q)==some .eq)=_:=ord_eq_iff (s:=s) (t:=t) h1 h2
    rw[show decide (r=q∧(s=t∨r=0))=decide (r=q∧s=t) by
     rw[Bool.eq_iff_iff];simp only[decide_eq_true_eq];constructor
     ·rintro⟨a,b|b⟩
      ·exact⟨a,b⟩
      ·exact absurd ⟨b,by omega⟩ hz
     ·rintro⟨a,b⟩;exact⟨a,.inl b⟩] at hE
    generalize decide (r=q∧s=t)=D at hE ⊢
    by_cases hr0:r=0
    ·have hq0:0<q:=by omega
     subst hr0
     have a1:FloatKind.f64.format.order (W s 0) 0=some .eq:=ord_zero_zero
     have a2:=W0n t hq0 h2
     clear hz
     go_enter Tryz.func7,Tryz.ntmps7
     go_wp2
     go_ret
     exact⟨rfl,rfl⟩
    ·have a1:=W0n s (by omega:0<r) h1
     clear hz
     go_enter Tryz.func7,Tryz.ntmps7
     go_wp2
     go_ret
     exact⟨rfl,rfl⟩
  ·have n2:=isn_nan (s:=t) (by omega:9218868437227405312<q) hq
   rw[fb_num h1,fb_nan (by omega) hq,show(((9221120237041090560:Nat)):Int)=9221120237041090560 from rfl,(W_ne_nan h1).1]
   go_enter Tryz.func7,Tryz.ntmps7
   go_wp2
   go_ret
   exact⟨rfl,rfl⟩
 ·have n1:=isn_nan (s:=s) (by omega:9218868437227405312<r) hr
  by_cases h2:q≤9218868437227405312
  ·have n2:=isn_num (s:=t) h2
   rw[fb_num h2,fb_nan (by omega) hr,show(((9221120237041090560:Nat)):Int)=9221120237041090560 from rfl,(W_ne_nan h2).2]
   go_enter Tryz.func7,Tryz.ntmps7
   go_wp2
   go_ret
   exact⟨rfl,rfl⟩
  ·have n2:=isn_nan (s:=t) (by omega:9218868437227405312<q) hq
   rw[fb_nan (by omega) hr,fb_nan (by omega) hq,show(((9221120237041090560:Nat):Int)==((9221120237041090560:Nat):Int))=true from beq_self_eq_true _]
   go_enter Tryz.func7,Tryz.ntmps7
   go_wp2
   go_ret
   exact⟨rfl,rfl⟩
end Go.Proofs.YtgamjhpebmmjcaaGreatDoor
namespace Go.Proofs.YtgamjhpebmmjcaaGreatDoor
set_option maxRecDepth 100000
set_option maxHeartbeats 40000000
open Go.RowKit Flt
attribute [local go_sem] alloc_drewN setCell_drewN run_store_float
structure SrcB (w W:World)(B g off:Nat)(t:List UInt8)(v:Value)(bs:List Int):Prop where
 y:YB W B v bs
 x:g<B∧∀j,j<(numsOf t).length→W.cell? ((⟨g,off,none⟩:Addr).add j)=some (.int .u8 ((numsOf t).getD j 0))
 k:Kept 0 0 w W
 z:w.heap.size≤B∧B≤W.heap.size
theorem SrcB.app {w W W':World}{B g off:Nat}{t:List UInt8}{v v':Value}{bs cs:List Int}(h:SrcB w W B g off t v bs)(hy:YB W' B v' cs)(c:Chg (fun b=>v.ownBlock=some b) W W'):SrcB w W' B g off t v' cs:=
 ⟨hy,⟨h.x.1,fun j hj=>by
  have e:((⟨g,off,none⟩:Addr).add j).block=g:=by rw[add_addr]
  rw[c.cell (p:=(⟨g,off,none⟩:Addr).add j) (by rw[e];exact Nat.lt_of_lt_of_le h.x.1 h.z.2) (fun q=>by rw[e] at q;have:=(h.y.blk q).1;have:=h.x.1;omega)]
  exact h.x.2 j hj⟩,Chg.kept h.k c (fun b q=>Nat.le_trans h.z.1 (h.y.blk q).1),h.z.1,Nat.le_trans h.z.2 c.size⟩
theorem SrcB.al {w W:World}{B g off:Nat}{t:List UInt8}{v:Value}{bs:List Int}(h:SrcB w W B g off t v bs)(o:Obj):SrcB w (W.alloc o) B g off t v bs:=
 have k:=kept_alloc 0 0 W o
 ⟨h.y.keep k,⟨h.x.1,fun j hj=>by
  have e:((⟨g,off,none⟩:Addr).add j).block=g:=by rw[add_addr]
  rw[k.cell (p:=(⟨g,off,none⟩:Addr).add j) (by rw[e];exact Nat.lt_of_lt_of_le h.x.1 h.z.2) (by omega)]
  exact h.x.2 j hj⟩,h.k.trans k,h.z.1,Nat.le_trans h.z.2 k.size⟩
theorem negK_lt {b:Nat}(h:b<18446744073709551616):Op.negFloat .f64 b<18446744073709551616:=by
 obtain⟨s,r,hr,rfl⟩:=split_word b h
 rw[neg_W s hr];exact W_lt hr
theorem src_nums (t:List UInt8):111::117::116::32::(numsOf t++(numsOf [32,59,32,111,117,116,32,45]++(numsOf t++[59])))=numsOf (srcN t):=by
 unfold srcN numsOf
 simp
theorem SrcB.tx {w W:World}{B g off g9 n9 c9:Nat}{t s:List UInt8}(h:SrcB w W B g off t (.slice (some ⟨g9,0,none⟩) n9 c9) (numsOf s))(hn:n9=(numsOf s).length)(h0:0<s.length):TxA W (some ⟨g9,0,none⟩) n9 s∧n9≤c9:=by
 rw[numsOf_len] at hn
 obtain⟨g',c',e,b1,b2,b3⟩:=h.y.at_ (by rw[numsOf_len];exact h0)
 rw[numsOf_len] at e b3
 have e3:g9=g':=by injection e with e;injection e with e;injection e
 subst e3
 refine⟨⟨hn.symm,fun _=>⟨g9,0,rfl,hn.symm,b2,fun k hk=>?_⟩⟩,?_⟩
 ·rw[Nat.zero_add,b3 k (by omega),numsOf_at s k (by omega)]
 ·rcases h.y.2 with⟨q,_⟩|⟨g2,cap2,cur,q,_,_,q3,_⟩
  ·cases q
  ·rw[numsOf_len] at q q3
   injection q with _ q4 q5
   omega
def SvL (w:World)(k l:Nat)(e:Ending)(w':World):Prop:=
 ∃G g0 c0 g1 c1 k1 k2,e=.returned (.agg #[.int .i64 0,.int .i64 0,.int .i64 2,.int .i64 2,.slice (some ⟨G,0,none⟩) 2 2])∧(G<w'.heap.size∧w'.cell? ⟨G,0,none⟩=some (.slice (some ⟨g0,0,none⟩) 1 c0)∧w'.cell? ⟨G,1,none⟩=some (.slice (some ⟨g1,0,none⟩) 1 c1))∧(g0<w'.heap.size∧w'.cell? ⟨g0,0,none⟩=some (.float .f64 k1))∧(g1<w'.heap.size∧w'.cell? ⟨g1,0,none⟩=some (.float .f64 k2))∧(k1<18446744073709551616∧k2<18446744073709551616)∧fb k1=fb k∧fb k2=fb l∧Kept 0 0 w w'
theorem fnNum {w:World}{a:Option Addr}{n cap:Nat}{xs:List Int}(f:YS w a n xs)(hcp:n≤cap)(hn:n≤1048576)
  (hS:∀(W:World) (b:Option Addr) (m c gp cp:Nat) (t:List UInt8),Kept 0 0 w W→TxA W b m (srcN t)→m≤c→m≤4000→NumOK t→gp<W.heap.size→W.cell? ⟨gp,0,none⟩=some (.int .i64 2)→W.cell? ⟨gp,1,none⟩=some (.int .i64 0)→Calls Tryz.prog 8 #[.slice b m c,.slice (some ⟨gp,0,none⟩) 2 cp,.int .i64 10,.slice none 0 0] W (SvL W (numK t) (Op.negFloat .f64 (numK t)))):
  Calls Tryz.prog 3 #[.slice a n cap] w fun e w'=>e=.returned (.bool true)∧Kept 0 0 w w':=by
 have tn:¬((1048576:Int)<(n:Int)):=by omega
 have HT:Hid (∀W:World,Kept 0 0 w W→_):=fun W (k:Kept 0 0 w W)=>drawF W a n cap xs (f.keep k) hcp
 have HS:Hid _:=hS
 have HLt:Hid _:=draw_len f
 generalize drawM (xs.take 500)=t at*
 clear f hS hcp hn
 go_enter Tryz.func3,Tryz.ntmps3
 go_upto_region 4 with (go_at_call 4;refine Calls.mono (HT.out w (Kept.refl 0 0 w)) ?_;rintro e w1 ⟨b,c,rfl,y1,k1⟩)
 have HX:Hid _:=specRN w1 b t.length c _ y1 (by have:=HLt.out;omega)
 have HY1:Hid _:=y1
 have HK1:Hid _:=k1
 clear y1 k1
 go_upto_region 5 with (go_at_call 5;refine Calls.mono HX.out ?_;rintro e w2 ⟨F,C,rfl,hr,d2⟩)
 have HR:Hid _:=hr
 have HK2:Hid _:=HK1.out.trans (d2.kept 0 0)
 have HY2:Hid _:=YS.keep HY1.out (d2.kept 0 0)
 clear hr HX d2 HY1 HK1
 go_upto_region 6 with (first|(go_at_call 4;refine Calls.mono (HT.out w2 HK2.out) ?_;rintro e w3 ⟨b3,c3,rfl,y3,k3⟩;have HX:Hid _:=implRN w3 b3 t.length c3 _ y3 (by have:=HLt.out;omega);have HK3:Hid _:=HK2.out.trans k3;have HY3:Hid _:=YS.keep HY2.out k3;clear y3 k3)|(go_at_call 6;refine Calls.mono HX.out ?_;rintro e w4 ⟨F2,C2,rfl,hr,d4⟩;have HK4:Hid _:=HK3.out.trans (d4.kept 0 0);have HY4:Hid _:=YS.keep HY3.out (d4.kept 0 0);have HR2:Hid _:=hr;clear hr d4 HY3 HX HK3))
 clear HY2 HK2
 obtain⟨s1,hC,s3,s4⟩:=RN.same HR2.out HR.out
 subst hC
 have tC:(C2 !=C2)=false:=by simp
 rcases (show(F=0∧F2=0∧(C2=2∨C2=5))∨(NumOK t∧C2=0) by
  rcases HR.out with⟨q1,rfl,rfl⟩|⟨q1,q2,rfl,rfl⟩|⟨q1,q2,q3,q4,rfl⟩
  ·rcases HR2.out with⟨_,rfl,_⟩|⟨p1,_⟩|⟨p1,_⟩
   ·exact .inl ⟨rfl,rfl,.inl rfl⟩
   ·exact absurd p1 q1
   ·exact absurd p1 q1
  ·rcases HR2.out with⟨p1,_⟩|⟨_,_,rfl,_⟩|⟨p1,p2,_⟩
   ·exact absurd q1 p1
   ·exact .inl ⟨rfl,rfl,.inr rfl⟩
   ·omega
  ·exact .inr ⟨⟨q1,q2⟩,rfl⟩) with⟨rfl,rfl,hC⟩|⟨hx,rfl⟩
 ·have HSF:Hid (∀W:World,_):=fun W=>sameFn 0 0 W (by decide) (by decide)
  have h0:(C2 !=0)=true:=by rcases hC with rfl|rfl<;>rfl
  clear HR HR2 s1 s3 s4 hC HS HY4
  go_wp2_with (go_at_call 7;refine Calls.mono (HSF.out _) ?_;rintro e w5 ⟨rfl,rfl⟩)
  go_ret
  exact⟨by simp,HK4.out⟩
 ·obtain⟨e1,_⟩:=rn_num hx HR.out
  obtain⟨e2,_⟩:=rn_num hx HR2.out
  subst e1 e2
  have HSF:Hid (∀W:World,_):=fun W=>sameFn (numK t) (numK t) W s3 s3
  rw[show((fb (numK t):Int)==(fb (numK t):Int))=true from beq_self_eq_true _] at HSF
  have HX:Hid _:=hx
  clear HR HR2 s1 s4 tC hx
  go_upto_region 12 with (go_at_call 7;refine Calls.mono (HSF.out _) ?_;rintro e w5 ⟨rfl,hw⟩;obtain rfl:=hw.symm)
  have HLn:Hid (t.length≤16):=num_len HX.out
  have hNl:(numsOf t).length=t.length:=numsOf_len t
  have hp:0<t.length:=by
   obtain⟨p,hq⟩:=HX.out.1
   have:=hq.pos
   omega
  obtain⟨g,off,rfl,hg,hc⟩:∃g off,b=some ⟨g,off,none⟩∧g<w4.heap.size∧∀k,k<t.length→w4.cell? ⟨g,off+k,none⟩=some (.int .u8 ((numsOf t).getD k 0)):=by
   rcases HY4.out.at_ with q|q
   ·omega
   ·exact q
  have hcv:=Lib.run_convert_bytes_const (P:=Tryz.prog) w4 22 5 #[.int .u8 111,.int .u8 117,.int .u8 116,.int .u8 32] 4 4 Tryz.underlying22 Tryz.underlying5
  have k0:=kept_alloc 0 0 w4 (.cells #[.int .u8 111,.int .u8 117,.int .u8 116,.int .u8 32] 5 (4,5))
  have HK0:Hid _:=HK4.out.trans k0
  have HW0:Hid (∀j u,([111,117,116,32].map (Value.int .u8))[j]? =some u→(w4.alloc (.cells #[.int .u8 111,.int .u8 117,.int .u8 116,.int .u8 32] 5 (4,5))).cell? ((⟨w4.heap.size,0,none⟩:Addr).add j)=some u):=fun j u hu=>by
   rw[add_addr,Nat.zero_add,World.cell?_alloc_mark,←hu,←Array.getElem?_toList]
   rfl
  have HTx:Hid (g<(w4.alloc (.cells #[.int .u8 111,.int .u8 117,.int .u8 116,.int .u8 32] 5 (4,5))).heap.size∧∀j,j<(numsOf t).length→(w4.alloc (.cells #[.int .u8 111,.int .u8 117,.int .u8 116,.int .u8 32] 5 (4,5))).cell? ((⟨g,off,none⟩:Addr).add j)=some (.int .u8 ((numsOf t).getD j 0))):=⟨Nat.lt_of_lt_of_le hg k0.size,fun j hj=>by
   rw[add_addr,k0.cell (p:=⟨g,off+j,none⟩) hg (by omega)]
   exact hc j (by omega)⟩
  have HNl:Hid _:=hNl
  have HPs:Hid _:=hp
  clear hNl hp hg hc HY4 k0
  have hcv':(convert 22 22 (.slice (some ⟨w4.heap.size,0,none⟩) 4 4)).run Tryz.prog (w4.alloc (.cells #[.int .u8 111,.int .u8 117,.int .u8 116,.int .u8 32] 5))=.ok (.slice (some ⟨w4.heap.size,0,none⟩) 4 4) (w4.alloc (.cells #[.int .u8 111,.int .u8 117,.int .u8 116,.int .u8 32] 5 (4,5))):=hcv
  clear hcv
  obtain⟨i0,hi,hz0,hz1,hz2⟩:=info_parts infoY
  generalize w4.alloc (.cells #[.int .u8 111,.int .u8 117,.int .u8 116,.int .u8 32] 5 (4,5))=W0 at*
  go_upto_region 13 with (at_builtin;refine wpList_append_grows _ rfl _ _ 22 rfl 5 i0 (.int .u8 0) 1 1 Tryz.underlying22 hi hz0 hz1 hz2 rfl (by decide) (some ⟨w4.heap.size,0,none⟩) 4 4 ([111,117,116,32].map (Value.int .u8)) rfl (fun e=>by cases e) rfl (fun b e=>by cases e;exact HW0.out) ⟨g,off,none⟩ t.length c ((numsOf t).map (Value.int .u8)) rfl ?c1 (newsY HTx.out.2) ?c2 ?c3 ?c4 ?c5 ?_)
  case c1=>rw[List.length_map,HNl.out,Nat.mul_one]
  case c2=>intro u hu;obtain⟨x,_,rfl⟩:=List.mem_map.1 hu;rfl
  case c3=>have:=HPs.out;omega
  case c4=>have:=HLn.out;unfold maxLen;omega
  case c5=>have:=HLn.out;omega
  intro v6 w6 hR6 hC6
  have hY6:YB w6 W0.heap.size v6 ([111,117,116,32]++numsOf t):=by
   unfold YB
   rw[List.length_append,HNl.out,List.map_append]
   exact hR6
  have HB2:Hid (SrcB w w6 W0.heap.size g off t v6 ([111,117,116,32]++numsOf t)):=by
   have cc:=chg_grow hC6
   refine⟨hY6,⟨HTx.out.1,fun j hj=>?_⟩,Chg.kept HK0.out cc (fun b q=>by cases q),HK0.out.size,cc.size⟩
   have e:((⟨g,off,none⟩:Addr).add j).block=g:=by rw[add_addr]
   rw[cc.cell (p:=(⟨g,off,none⟩:Addr).add j) (by rw[e];exact HTx.out.1) (fun q=>by cases q)]
   exact HTx.out.2 j hj
  obtain⟨g6,cap6,rfl,_,_,_⟩:=hY6.at_ (by simp)
  clear hR6 hC6 hY6 HW0 HTx HK0 hcv' hi hz0 hz1 hz2
  generalize W0.heap.size=B at*
  go_upto_region 14 with (at_builtin;refine wpList_appendN _ rfl _ _ rfl B _ _ rfl HB2.out.y [32,59,32,111,117,116,32,45] rfl (by decide) ?c1 ?c2 ?_)
  case c1=>have:=HLn.out;have:=HNl.out;simp;omega
  case c2=>exact HB2.out.z.2
  intro g7 cap7 n7 w7 e7 hR7 hC7 hG7
  have HB3:Hid _:=HB2.out.app hR7 hC7
  clear e7 hR7 hC7 hG7 HB2
  go_upto_region 15 with (at_builtin;refine wpList_appendY _ rfl _ _ rfl B _ _ rfl HB3.out.y ⟨g,off,none⟩ t.length c (numsOf t) rfl HNl.out HB3.out.x.2 HPs.out ?c1 ?c2 ?_)
  case c1=>have:=HLn.out;have:=HNl.out;simp[numsOf] at*;omega
  case c2=>exact HB3.out.z.2
  intro g8 cap8 n8 w8 e8 hR8 hC8 hG8
  have HB4:Hid _:=HB3.out.app hR8 hC8
  clear e8 hR8 hC8 hG8 HB3
  have HB5:Hid _:=HB4.out.al (.cells #[.int .u8 59] 5)
  have HN5:Hid _:=newsA w8 #[.int .u8 59] [59] rfl
  go_upto_region 16 with (at_builtin;refine wpList_appendY _ rfl _ _ rfl B _ _ rfl HB5.out.y ⟨w8.heap.size,0,none⟩ 1 1 [59] rfl rfl HN5.out (by decide) ?c1 ?c2 ?_)
  case c1=>have:=HLn.out;have:=HNl.out;simp[numsOf] at*;omega
  case c2=>exact HB5.out.z.2
  intro g9 cap9 n9 w9 e9 hR9 hC9 hG9
  have HB6:Hid _:=HB5.out.app hR9 hC9
  have HE9:Hid _:=e9
  clear hR9 hC9 hG9 HB4 HB5 HN5 e9
  rw[src_nums] at HB6
  have hsl:(srcN t).length≤4000:=by
   have:=HLn.out
   unfold srcN
   simp
   omega
  obtain⟨hTx,hcap⟩:=HB6.out.tx (by rw[←src_nums];simp only[List.length_cons,List.length_append,List.length_nil];have:=HE9.out;omega) (by unfold srcN;simp)
  have hn9:n9≤4000:=by have:=hTx.len;omega
  have kp:=kept_alloc 0 0 w9 (.cells #[.int .i64 2,.int .i64 0] 3)
  have hb:=box_at (S:=fun _=>False) w9 _ #[.int .i64 2,.int .i64 0] 3 (Kept.refl 0 0 _).chg (fun c=>c)
  have HKp:Hid _:=HB6.out.k.trans kp
  have HSo:Hid _:=HS.out _ _ _ cap9 w9.heap.size 2 t HKp.out (hTx.keep kp) hcap hn9 HX.out hb.2.2 (hb.1 0) (hb.1 1)
  clear kp hb hTx hcap hsl hn9 HB6 HE9 HS HNl HPs HT
  go_upto_region 17 with (go_at_call 8;refine Calls.mono HSo.out ?_;rintro e w10 ⟨G,g0,d0,g1,d1,k1,k2,rfl,⟨l0,p0,p1⟩,⟨l1,p2⟩,⟨l2,p3⟩,⟨h1,h2⟩,f1,f2,k10⟩)
  have kb:=kept_alloc 0 0 w10 (.cells #[.int .i64 0,.int .i64 0,.int .i64 2,.int .i64 2,.slice (some ⟨G,0,none⟩) 2 2] 30)
  have hb:=(box_at (S:=fun _=>False) w10 _ #[.int .i64 0,.int .i64 0,.int .i64 2,.int .i64 2,.slice (some ⟨G,0,none⟩) 2 2] 30 (Kept.refl 0 0 _).chg (fun c=>c)).1
  have HK11:Hid _:=(HKp.out.trans k10).trans kb
  have b0:=hb 0
  have b4:=hb 4
  have p0:=kcell kb l0 p0
  have p1:=kcell kb l0 p1
  have p2:=kcell kb l1 p2
  have p3:=kcell kb l2 p3
  have e1:((fb k1:Int)==(fb (numK t):Int))=true:=by rw[f1];exact beq_self_eq_true _
  have e2:((fb k2:Int)==(fb (Op.negFloat .f64 (numK t)):Int))=true:=by rw[f2];exact beq_self_eq_true _
  have h5:=negK_lt s3
  have HHH:Hid _:=And.intro h1 (And.intro h2 (And.intro s3 h5))
  have HEE:Hid _:=And.intro e1 e2
  clear hb kb k10 f1 f2 l0 l1 l2 HKp HSo HSF e1 e2 h1 h2 s3 h5
  generalize w10.alloc (.cells #[.int .i64 0,.int .i64 0,.int .i64 2,.int .i64 2,.slice (some ⟨G,0,none⟩) 2 2] 30)=w11 at*
  generalize w10.heap.size=R at*
  go_upto_region 19 with fail
  have hng:(Op.unary .neg (.float .f64 (numK t))).run Tryz.prog w11=.ok (.float .f64 (Op.negFloat .f64 (numK t))) w11:=rfl
  generalize Op.negFloat .f64 (numK t)=ng at HHH HEE hng
  obtain⟨h1,h2,s3,h5⟩:=HHH.out
  obtain⟨e1,e2⟩:=HEE.out
  go_wp2_with (go_at_call 7;refine Calls.mono (sameFn _ _ _ (by assumption) (by assumption)) ?_;rintro e w12 ⟨rfl,hw⟩;obtain rfl:=hw.symm)
  go_ret
  exact⟨by simp,HK11.out⟩
end Go.Proofs.YtgamjhpebmmjcaaGreatDoor
namespace Go.Proofs.YtgamjhpebmmjcaaGreatDoor
set_option maxRecDepth 100000
set_option maxHeartbeats 40000000
open Go.RowKit Flt
theorem ngK_eq (k:Nat):ngK k=Op.negFloat .f64 k:=rfl
theorem one_fb {zs:List Nat}{k:Nat}(h:same zs [k]):∃z,zs=[z]∧fb z=fb k:=by
 obtain⟨z,rfl⟩:=List.length_eq_one_iff.1 (same_len h)
 refine⟨z,rfl,?_⟩
 simpa[same] using h
theorem sv_l {w:World}{k:Nat}{e:Ending}{w':World}(h:SvN w k e w'):SvL w k (Op.negFloat .f64 k) e w':=by
 obtain⟨G,gf,cf,zss,k1,k2,rfl,hs,hz,⟨q1,q2⟩,f1,f2,kk⟩:=h
 obtain⟨z0,e0,r0⟩:=one_fb q1
 obtain⟨z1,e1,r1⟩:=one_fb q2
 have c0:=hs.cell 0 (by omega)
 have c1:=hs.cell 1 (by omega)
 have o0:=hs.own 0 (by omega)
 have o1:=hs.own 1 (by omega)
 rw[e0] at c0 o0
 rw[e1] at c1 o1
 exact⟨G,gf 0,cf 0,gf 1,cf 1,z0,z1,rfl,⟨hs.lt,c0,c1⟩,⟨o0.lt,o0.at_ 0 (by simp)⟩,⟨o1.lt,o1.at_ 0 (by simp)⟩,⟨o0.bnd z0 (by simp),o1.bnd z1 (by simp)⟩,r0.trans f1,by rw[←ngK_eq];exact r1.trans f2,kk⟩
theorem fnNumber_walk {W:World}{a:Option Addr}{n c:Nat}{bs:List Int}(f:YS W a n bs)(hc:n≤c)(hn:n≤1048576):Calls Tryz.prog 3 #[.slice a n c] W fun e w'=>e=.returned (.bool true)∧Kept 0 0 W w':=
 fnNum f hc hn fun _ _ _ _ _ _ _ _ hT h1 h2 hx hg p0 p1=>Calls.mono (solveX hT h1 h2 hx hg p0 p1) fun _ _ h=>sv_l h
end Go.Proofs.YtgamjhpebmmjcaaGreatDoor
namespace Go.Proofs.YtgamjhpebmmjcaaGreatDoor
set_option maxRecDepth 100000
set_option maxHeartbeats 40000000
open Go
theorem fnNumber_cardOf (hw:PNum.Walks):Rows.FnNumberCardSaid:=
 Claim7.holds_tied_plain_at .later [] [.handle] true _ true
  (fnNumber_rowOf hw) (fun _ h=>by cases h) (by kernel_rfl) (fun _ h=>by cases h) fnNumber_row_tie rfl ⟨rfl,rfl⟩ (by kernel_rfl) rfl
  (fun f fn hf hfn=>by
   obtain rfl:f=3:=Option.some.inj ((show Tryz.prog.funcNamed "loop.example/s08086/laws.FnNumber"=some 3 by kernel_rfl).symm.trans hf) |>.symm
   obtain rfl:fn=Tryz.f3:=(Option.some.inj (Tryz.func3.symm.trans hfn)).symm
   exact⟨by kernel_rfl,fun j t ht=>by
    rw[Tryz.params3] at ht
    have h3:t=22:=by
     rcases j with _|j
     ·simpa using ht.symm
     ·simp at ht
    subst h3
    exact(show Tryz.prog.wantsStandIn 22=false by kernel_rfl)⟩)
  (by kernel_rfl)
end Go.Proofs.YtgamjhpebmmjcaaGreatDoor
namespace Go.Proofs.YtgamjhpebmmjcaaGreatDoor
set_option maxRecDepth 100000
set_option maxHeartbeats 40000000
open Go.RowKit Flt
theorem fnNumber_holds:Rows.FnNumberCardSaid:=fnNumber_cardOf fun _ _ _ _ _ f hc hn=>fnNumber_walk f hc hn
#print axioms fnNumber_holds
end Go.Proofs.YtgamjhpebmmjcaaGreatDoor
