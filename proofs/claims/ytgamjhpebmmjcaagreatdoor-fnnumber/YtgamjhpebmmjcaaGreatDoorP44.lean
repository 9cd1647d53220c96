import Derived.Test.YtgamjhpebmmjcaaGreatDoorP23
import Derived.Test.YtgamjhpebmmjcaaGreatDoorP02
import Derived.Test.YtgamjhpebmmjcaaGreatDoorP21
import Derived.Test.YtgamjhpebmmjcaaGreatDoorP24
import Derived.Lib.ConvBytes
import Derived.Test.YtgamjhpebmmjcaaGreatDoorP10
import Derived.Test.YtgamjhpebmmjcaaGreatDoorP29
import Derived.Lib.AppendStr
namespace Go.Proofs.YtgamjhpebmmjcaaGreatDoor
set_option maxRecDepth 100000
set_option maxHeartbeats 40000000
open Go.RowKit Flt Ieee
theorem near_le (s:Bool)(mag:Nat)(place:Int):∃r,double.nearest s mag place=W s r∧r≤9218868437227405312:=by
 unfold Ieee.Format.nearest
 by_cases h:mag=0
 ·rw[if_pos h,word_eq];exact⟨0,rfl,by omega⟩
 ·rw[if_neg h]
  simp only[word_eq,inf_eq]
  exact⟨_,rfl,Nat.min_le_right _ _⟩
theorem cut_even_le (neg:Bool)(n drop:Nat):Ieee.Toward.cut .even neg n drop≤n+1:=by
 unfold Ieee.Toward.cut
 simp only
 exact Nat.add_le_add (Nat.div_le_self _ _) (Bool.toNat_le _)
theorem near_small (mag:Nat)(h:mag≤10000000000000000):∃r,double.nearest false mag 0=W false r∧r<9218868437227405312∧(0<mag→0<r):=by
 unfold Ieee.Format.nearest
 by_cases h0:mag=0
 ·rw[if_pos h0,word_eq];exact⟨0,rfl,by omega,fun c=>by omega⟩
 ·rw[if_neg h0]
  simp only[word_eq,inf_eq,binade_eq,least_eq,frac_eq]
  have hL:mag.log2≤53:=by
   have:=(Nat.log2_lt h0).2 (show mag<2 ^ 54 by omega)
   omega
  have hm:mag<2 ^ (mag.log2+1):=Nat.lt_log2_self
  generalize mag.log2=L at*
  have hl:max ((0:Int)+(L:Int)-((52:Nat):Int)) (-1074)=(L:Int)-52:=by omega
  rw[hl]
  have hn:mag<<<(0-((L:Int)-52)).toNat≤10000000000000000:=by
   rw[Nat.shiftLeft_eq]
   by_cases c:L≤52
   ·have e:(0-((L:Int)-52)).toNat=52-L:=by omega
    rw[e]
    have h1:mag*2 ^ (52-L)≤2 ^ (L+1)*2 ^ (52-L):=Nat.mul_le_mul_right _ (Nat.le_of_lt hm)
    rw[←Nat.pow_add,show L+1+(52-L)=53 by omega] at h1
    omega
   ·have e:(0-((L:Int)-52)).toNat=0:=by omega
    rw[e]
    omega
  have hk:=cut_even_le false (mag<<<(0-((L:Int)-52)).toNat) ((L:Int)-52-0).toNat
  generalize Ieee.Toward.cut .even false (mag<<<(0-((L:Int)-52)).toNat) ((L:Int)-52-0).toNat=K at*
  have hi:((L:Int)-52- -1074).toNat=L+1022:=by omega
  rw[hi]
  refine⟨_,rfl,?_,fun _=>?_⟩<;>omega
theorem nan_word {s:Bool}{r:Nat}(h:r≤9218868437227405312):(double.read (W s r)).isNaN=false:=by
 rcases Nat.lt_or_eq_of_le h with h|rfl
 ·rw[read_num h];rfl
 ·rw[read_inf];rfl
theorem quo_num {n d:Int}(h0:0≤n)(h1:n≤10000000000000000)(h2:1≤d)(h3:d≤10000000000000000):(f64.read (cop .quo (floatOfInt .f64 n) (floatOfInt .f64 d))).isNaN=false:=by
 obtain⟨r,e1,hr,_⟩:=near_small n.natAbs (by omega)
 obtain⟨q,e2,hq,q0⟩:=near_small d.natAbs (by omega)
 have f1:floatOfInt .f64 n=W false r:=by
  rw[←e1]
  show double.nearest (decide (n<0)) n.natAbs 0=_
  rw[decide_eq_false (by omega)]
 have f2:floatOfInt .f64 d=W false q:=by
  rw[←e2]
  show double.nearest (decide (d<0)) d.natAbs 0=_
  rw[decide_eq_false (by omega)]
 rw[f1,f2]
 have hM:=M_pos (q0 (by omega))
 have e:floatBits .quo .f64 (W false r) (W false q)=((double.read (W false r)).quotient (double.fractionBits+2) (double.read (W false q))).map double.write:=rfl
 unfold cop
 rw[e,read_num hr,read_num hq]
 simp only[Ieee.Datum.quotient,if_neg (show ¬M q=0 by omega),Option.map_some,Option.getD_some,Ieee.Format.write]
 obtain⟨z,e3,hz⟩:=near_le (false ^^ false) (2*((M r<<<(double.fractionBits+2+(M q).log2-(M r).log2))/M q)+((M r<<<(double.fractionBits+2+(M q).log2-(M r).log2))%M q !=0).toNat) (-1074+(E r:Nat)-(-1074+(E q:Nat))-(double.fractionBits+2+(M q).log2-(M r).log2:Nat)-1)
 rw[e3]
 exact nan_word hz
theorem num_nan {x:List UInt8}(h:NumOK x):(f64.read (numK x)).isNaN=false:=by
 obtain⟨⟨p,hp⟩,hd⟩:=h
 obtain⟨h1,h2,h3,h4⟩:=nds_small _ hp.digit _ (Nat.le_refl _) (hp.short hd)
 rw[List.take_of_length_le (Nat.le_refl _)] at h1 h2 h3 h4
 exact quo_num h1 h2 h3 h4
theorem rn_num {x:List UInt8}(h:NumOK x){f:Nat}{c:Int}(k:RN (numsOf x) f c):f=numK x∧c=0:=by
 rcases k with⟨h1,_⟩|⟨_,h2,_⟩|⟨_,_,_,h4,h5⟩
 ·exact absurd h.1 h1
 ·have:=h.2;omega
 ·refine⟨?_,h5⟩
  rcases fb_cases h4 with e|⟨_,e⟩
  ·exact e
  ·have:=num_nan h
   rw[numK,e] at this
   cases this
end Go.Proofs.YtgamjhpebmmjcaaGreatDoor
namespace Go.Proofs.YtgamjhpebmmjcaaGreatDoor
set_option maxRecDepth 100000
set_option maxHeartbeats 40000000
open Go.RowKit Flt
theorem kept_conv (w:World)(e:TypeId)(s:ByteArray):Kept 0 0 w (Lib.bytesWorld w e s):=
 ⟨rfl,rfl,rfl,by rw[Lib.bytesWorld_size];omega,fun k hk _=>Lib.bytesWorld_at_old w e s k hk⟩
theorem ys_conv (w:World)(e:TypeId)(t:List UInt8):YS (Lib.bytesWorld w e ⟨t.toArray⟩) (some ⟨w.heap.size,0,none⟩) t.length (numsOf t) where
 len:=by unfold numsOf;rw[List.length_map]
 lt:=fun x hx=>by
  unfold numsOf at hx
  obtain⟨b,_,rfl⟩:=List.mem_map.1 hx
  have:=b.toNat_lt
  omega
 at_:=.inr ⟨w.heap.size,0,rfl,by rw[Lib.bytesWorld_size];omega,fun k hk=>by
  rw[Nat.zero_add,Lib.bytesWorld_cell w e ⟨t.toArray⟩ k hk,numsOf_at t k hk]
  rfl⟩
theorem num_len {x:List UInt8}(h:NumOK x):x.length≤16:=by
 obtain⟨⟨p,hp⟩,hd⟩:=h
 have:=hp.short hd
 unfold numsOf at this
 rwa [List.length_map] at this
theorem numK_lt (x:List UInt8):numK x<18446744073709551616:=cop_lt _ _ _
end Go.Proofs.YtgamjhpebmmjcaaGreatDoor
namespace Go.Proofs.YtgamjhpebmmjcaaGreatDoor
set_option maxRecDepth 100000
set_option maxHeartbeats 40000000
open Go.RowKit Flt
attribute [local go_sem] alloc_drewN setCell_drewN
theorem rdf_new (w:World)(a:Option Addr)(n m cap:Nat)(xs:List Int)(h:YS w a n xs)(hm:m≤n)(hm':m≤500)(hx:(xs.take 500).length=m)(T:TypeId):
  RdF (w.alloc (.cells #[.slice a m cap,.int .i64 0] T)) w.heap.size a m cap 0 (xs.take 500):=by
 have hb:=box_at (S:=fun _=>False) w _ #[.slice a m cap,.int .i64 0] T (Kept.refl 0 0 _).chg (fun c=>c)
 refine⟨hb.2.2,hb.1 0,hb.1 1,hb.2.1 1,Nat.zero_le _,hm',⟨hx,fun x q=>h.lt x (List.mem_of_mem_take q),?_⟩,?_⟩
 ·rcases h.at_ with q|⟨g,off,e,h3,h4⟩
  ·exact .inl (by omega)
  ·refine .inr ⟨g,off,e,Nat.lt_of_lt_of_le h3 (kept_alloc 0 0 w _).size,fun k hk=>?_⟩
   rw[(kept_alloc 0 0 w _).cell (p:=⟨g,off+k,none⟩) h3 (by omega),h4 k (by omega)]
   rw[List.getD_eq_getElem?_getD,List.getD_eq_getElem?_getD,List.getElem?_take,if_pos (by omega)]
 ·intro h0 g off e
  rcases h.at_ with q|⟨g',off',e',h3,h4⟩
  ·omega
  ·rw[e] at e'
   injection e' with e'
   injection e' with e1
   omega
theorem open_f (w:World)(a:Option Addr)(n cap:Nat)(xs:List Int)(h:YS w a n xs)(hc:n≤cap):
  Calls Tryz.prog 9 #[.slice a n cap] w fun e w'=>e=.returned (.pointer (some ⟨w.heap.size,0,none⟩))∧(∃m,RdF w' w.heap.size a m cap 0 (xs.take 500))∧Kept 0 0 w w':=by
 have hl:=h.len
 by_cases hn:n≤500
 ·have H:Hid _:=rdf_new w a n n cap xs h (Nat.le_refl _) hn (by rw[List.length_take];omega) 52
  have HK:Hid _:=kept_alloc 0 0 w (.cells #[.slice a n cap,.int .i64 0] 52)
  clear h
  go_enter Tryz.func9,Tryz.ntmps9
  go_wp2
  go_ret
  exact⟨rfl,⟨n,H.out⟩,HK.out⟩
 ·obtain⟨x,rfl⟩:∃x,a=some x:=by
   rcases h.at_ with q|⟨g,off,e,_⟩
   ·omega
   ·exact⟨_,e⟩
  have H:Hid _:=rdf_new w (some x) n 500 cap xs h (by omega) (Nat.le_refl _) (by rw[List.length_take];omega) 52
  have HK:Hid _:=kept_alloc 0 0 w (.cells #[.slice (some x) 500 cap,.int .i64 0] 52)
  have hc2:500≤cap:=by omega
  have hn:500<n:=by omega
  clear h
  go_enter Tryz.func9,Tryz.ntmps9
  go_wp2
  go_ret
  exact⟨rfl,⟨500,H.out⟩,HK.out⟩
def rnTab:List (List UInt8):=[[],[46],[49,46],[46,53],[49,46,50,46,51],[45,49],[49,101,51],[32,49],[49,50,51,52,53,54,55,56,57,48,49,50,51,52,53],[49,50,51,52,53,54,55,56,57,48,49,50,51,52,53,54],[49,50,51,52,53,54,55,56,46,57,48,49,50,51,52,53],[48,46,48,48,48,48,48,48,48,48,48,48,48,48,48,49],[48,48,48,48,48,48,48,48,48,48,48,48,46,48,48,49]]
def rnTabV:Array Value:=#[.string ⟨#[]⟩,.string ⟨#[46]⟩,.string ⟨#[49,46]⟩,.string ⟨#[46,53]⟩,.string ⟨#[49,46,50,46,51]⟩,.string ⟨#[45,49]⟩,.string ⟨#[49,101,51]⟩,.string ⟨#[32,49]⟩,.string ⟨#[49,50,51,52,53,54,55,56,57,48,49,50,51,52,53]⟩,.string ⟨#[49,50,51,52,53,54,55,56,57,48,49,50,51,52,53,54]⟩,.string ⟨#[49,50,51,52,53,54,55,56,46,57,48,49,50,51,52,53]⟩,.string ⟨#[48,46,48,48,48,48,48,48,48,48,48,48,48,48,48,49]⟩,.string ⟨#[48,48,48,48,48,48,48,48,48,48,48,48,46,48,48,49]⟩]
theorem tab_at {k:Nat}(h:k<13):rnTabV[k]? =some (strL (rnTab.getD k [])):=by
 rcases (by omega:k=0∨k=1∨k=2∨k=3∨k=4∨k=5∨k=6∨k=7∨k=8∨k=9∨k=10∨k=11∨k=12) with rfl|rfl|rfl|rfl|rfl|rfl|rfl|rfl|rfl|rfl|rfl|rfl|rfl<;>rfl
theorem tab_len (k:Nat):(rnTab.getD k []).length≤16:=by
 by_cases h:k<13
 ·rcases (by omega:k=0∨k=1∨k=2∨k=3∨k=4∨k=5∨k=6∨k=7∨k=8∨k=9∨k=10∨k=11∨k=12) with rfl|rfl|rfl|rfl|rfl|rfl|rfl|rfl|rfl|rfl|rfl|rfl|rfl<;>decide
 ·rw[List.getD_eq_getElem?_getD,List.getElem?_eq_none (by show 13≤k;omega)]
  decide
def dst (bs:List Int)(p i:Nat):Nat→List UInt8×Nat
 |0=>([],i)
 |j+1=>((dst bs p i j).1++(if j=p then[46] else[])++[UInt8.ofNat (48+nv bs (dst bs p i j).2%10)],ni bs (dst bs p i j).2)
theorem dst_len (bs:List Int)(p i:Nat)(j:Nat):(dst bs p i j).1.length≤2*j:=by
 induction j with
 |zero=>exact Nat.le_refl _
 |succ j ih=>
  unfold dst
  rw[List.length_append,List.length_append]
  have:(if j=p then[(46:UInt8)] else[]).length≤1:=by split<;>simp
  simp only[List.length_cons,List.length_nil]
  omega
def drawM (bs:List Int):List UInt8:=if nv bs 0%8=0 then rnTab.getD (nv bs (ni bs 0)%13) [] else if nv bs 0%8<4 then l3n (nv bs (ni bs 0)) else (dst bs (nv bs (ni bs (ni bs 0))%12) (ni bs (ni bs (ni bs 0))) (1+nv bs (ni bs 0)%9)).1
end Go.Proofs.YtgamjhpebmmjcaaGreatDoor
namespace Go.Proofs.YtgamjhpebmmjcaaGreatDoor
set_option maxRecDepth 100000
set_option maxHeartbeats 40000000
open Go.RowKit Flt
attribute [local go_sem] alloc_drewN setCell_drewN
def DrO (w:World)(t:List UInt8)(e:Ending)(w':World):Prop:=∃b c,e=.returned (.slice b t.length c)∧YS w' b t.length (numsOf t)∧Kept 0 0 w w'
theorem Kept.chgP {l h:Nat}{w w':World}(k:Kept l h w w'):Chg (fun i=>l≤i∧i<h) w w':=⟨k.os,k.tape,k.output,k.size,fun i hi hn=>k.block i hi hn⟩
theorem conv_run (W:World)(tx:List UInt8):(convert 9 22 (strL tx)).run Tryz.prog W=.ok (.slice (some ⟨W.heap.size,0,none⟩) tx.length (grownCap W tx.length 0 5)) (Lib.bytesWorld W 5 ⟨tx.toArray⟩):=
 Lib.run_convert_string_bytes (P:=Tryz.prog) W 9 22 5 ⟨tx.toArray⟩ Tryz.underlying9 Tryz.underlying22 Tryz.underlying5
theorem draw1 (w:World)(a:Option Addr)(n cap:Nat)(xs:List Int)(h:YS w a n xs)(hc:n≤cap)(h0:nv (xs.take 500) 0%8=0):
  Calls Tryz.prog 4 #[.slice a n cap] w (DrO w (rnTab.getD (nv (xs.take 500) (ni (xs.take 500) 0)%13) [])):=by
 have HO:Hid _:=open_f w a n cap xs h hc
 generalize xs.take 500=bs at*
 clear h hc
 go_enter Tryz.func4,Tryz.ntmps4
 go_upto_region 2 with (go_at_call 9;refine Calls.mono HO.out ?_;rintro e w1 ⟨rfl,⟨m,hr⟩,k1⟩)
 have HN:Hid _:=next_f _ _ _ _ _ _ _ hr
 have HK1:Hid _:=k1
 have HP:Hid (w.heap.size<w1.heap.size):=hr.lt
 have q0:(nv bs 0:Int)%8=0:=by omega
 obtain⟨P,hP0⟩:∃P,P=w.heap.size:=⟨_,rfl⟩
 rw[←hP0] at HN HP ⊢
 have HW:Hid (w.heap.size≤P):=Nat.le_of_eq hP0.symm
 clear hP0
 clear hr k1 HO
 go_upto_region 3 with (go_at_call 10;refine Calls.mono HN.out ?_;rintro e w2 ⟨rfl,hr,k2,z2⟩)
 have HR2:Hid _:=hr
 have HK2:Hid _:=k2
 clear hr k2 HN
 go_upto_region 5 with fail
 change Code.wp _ _ _ _ (w2.alloc (.cells rnTabV 9))
 have HK3:Hid _:=kept_alloc 0 0 w2 (.cells rnTabV 9)
 have HR3:Hid _:=HR2.out.keep HK3.out (.inr (Nat.le_refl _))
 have HB:Hid (∀W,Kept P (P+1) (w2.alloc (.cells rnTabV 9)) W→_):=fun W k=>(box_at (S:=fun b=>P≤b∧b<P+1) w2 W rnTabV 9 k.chgP (by have:=HP.out;omega)).1
 have HN:Hid _:=next_f _ _ _ _ _ _ _ HR3.out
 clear HR2 HR3 q0
 generalize w2.alloc (.cells rnTabV 9)=w3 at*
 rw[z2] at HB
 generalize w1.heap.size=T at*
 clear z2
 obtain⟨k,hk,q0,q1⟩:∃k:Nat,k<13∧nv bs (ni bs 0)%13=k∧((nv bs (ni bs 0):Nat):Int)%13=(k:Int):=⟨nv bs (ni bs 0)%13,by omega,rfl,by omega⟩
 have HT:Hid _:=tab_at hk
 generalize ht:rnTab.getD k []=tx at HT
 generalize nv bs (ni bs 0)=y at*
 go_wp2_with (go_at_call 10;refine Calls.mono HN.out ?_;rintro e w4 ⟨rfl,hr,k4,z4⟩;have hcell:=(HB.out w4 k4 k).trans HT.out;have hcv:=conv_run w4 tx;have HK4:Hid _:=k4;have HY:Hid _:=ys_conv w4 5 tx;have HK5:Hid _:=kept_conv w4 5 ⟨tx.toArray⟩;clear k4 hr z4;generalize Lib.bytesWorld w4 5 ⟨tx.toArray⟩=w5 at hcv HY HK5;generalize grownCap w4 tx.length 0 5=cc at hcv;generalize w4.heap.size=b4 at*)
 go_ret
 rw[q0,ht]
 exact⟨_,cc,rfl,HY.out,(((HK1.out.new HK2.out HW.out).trans HK3.out).new HK4.out HW.out).trans HK5.out⟩
theorem draw2 (w:World)(a:Option Addr)(n cap:Nat)(xs:List Int)(h:YS w a n xs)(hc:n≤cap)(h0:nv (xs.take 500) 0%8≠0)(h4:nv (xs.take 500) 0%8<4):
  Calls Tryz.prog 4 #[.slice a n cap] w (DrO w (l3n (nv (xs.take 500) (ni (xs.take 500) 0)))):=by
 have HO:Hid _:=open_f w a n cap xs h hc
 generalize xs.take 500=bs at*
 clear h hc
 go_enter Tryz.func4,Tryz.ntmps4
 go_upto_region 2 with (go_at_call 9;refine Calls.mono HO.out ?_;rintro e w1 ⟨rfl,⟨m,hr⟩,k1⟩)
 have HN:Hid _:=next_f _ _ _ _ _ _ _ hr
 have HK1:Hid _:=k1
 have q0:(nv bs 0:Int)%8≠0:=by omega
 have q1:(nv bs 0:Int)%8<4:=by omega
 obtain⟨P,hP0⟩:∃P,P=w.heap.size:=⟨_,rfl⟩
 rw[←hP0] at HN ⊢
 have HW:Hid (w.heap.size≤P):=Nat.le_of_eq hP0.symm
 clear hP0
 clear hr k1 HO
 go_upto_region 3 with (go_at_call 10;refine Calls.mono HN.out ?_;rintro e w2 ⟨rfl,hr,k2,z2⟩)
 have HK2:Hid _:=k2
 have HN2:Hid _:=l3number_f _ _ _ _ _ _ _ hr
 clear hr k2 HN z2
 generalize ht:l3n (nv bs (ni bs 0))=tx at HN2
 go_wp2_with (go_at_call 11;refine Calls.mono HN2.out ?_;rintro e w4 ⟨rfl,hr,k4,z4⟩;have hcv:=conv_run w4 tx;have HK4:Hid _:=k4;have HY:Hid _:=ys_conv w4 5 tx;have HK5:Hid _:=kept_conv w4 5 ⟨tx.toArray⟩;clear k4 hr z4;generalize Lib.bytesWorld w4 5 ⟨tx.toArray⟩=w5 at hcv HY HK5;generalize grownCap w4 tx.length 0 5=cc at hcv;generalize w4.heap.size=b4 at*)
 go_ret
 rw[ht]
 exact⟨_,cc,rfl,HY.out,((HK1.out.new HK2.out HW.out).new HK4.out HW.out).trans HK5.out⟩
end Go.Proofs.YtgamjhpebmmjcaaGreatDoor
namespace Go.Proofs.YtgamjhpebmmjcaaGreatDoor
set_option maxRecDepth 100000
set_option maxHeartbeats 40000000
open Go.RowKit Flt
attribute [local go_sem] alloc_drewN setCell_drewN
theorem RdF.chg {w w':World}{P:Nat}{a:Option Addr}{n cap i:Nat}{bs:List Int}{S:Nat→Prop}(f:RdF w P a n cap i bs)(k:Chg S w w')(hd:∀b,S b→P<b):RdF w' P a n cap i bs where
 lt:=Nat.lt_of_lt_of_le f.lt k.size
 c0:=by rw[k.cell (p:=⟨P,0,none⟩) f.lt (fun q=>Nat.lt_irrefl _ (hd _ q))];exact f.c0
 c1:=by rw[k.cell (p:=⟨P,1,none⟩) f.lt (fun q=>Nat.lt_irrefl _ (hd _ q))];exact f.c1
 fz:=by rw[k.frozen (p:=⟨P,1,none⟩) f.lt (fun q=>Nat.lt_irrefl _ (hd _ q))];exact f.fz
 hi:=f.hi
 small:=f.small
 ys:=⟨f.ys.len,f.ys.lt,f.ys.at_.imp id fun⟨g,off,e,h3,h4⟩=>⟨g,off,e,Nat.lt_of_lt_of_le h3 k.size,fun j hj=>by rw[k.cell (p:=⟨g,off+j,none⟩) h3 (fun q=>Nat.lt_asymm (hd _ q) (f.ne (by omega) g off e))];exact h4 j hj⟩⟩
 ne:=f.ne
theorem dst_p (bs:List Int)(p i j:Nat)(h:j=p):dst bs p i (j+1)=((dst bs p i j).1++[46]++[UInt8.ofNat (48+nv bs (dst bs p i j).2%10)],ni bs (dst bs p i j).2):=by rw[dst,if_pos h]
theorem dst_n (bs:List Int)(p i j:Nat)(h:¬j=p):dst bs p i (j+1)=((dst bs p i j).1++[UInt8.ofNat (48+nv bs (dst bs p i j).2%10)],ni bs (dst bs p i j).2):=by rw[dst,if_neg h,List.append_nil]
theorem dig_u8 {d:Nat}(h:d<10):((48:Int)+(d:Int))=((UInt8.ofNat (48+d)).toNat:Int):=by
 have:(UInt8.ofNat (48+d)).toNat=48+d:=by simp;omega
 rw[this]
 omega
structure DS (w W:World)(P:Nat)(a:Option Addr)(m cap:Nat)(bs:List Int)(v:Value)(t:List UInt8)(i:Nat):Prop where
 y:YB W (P+1) v (numsOf t)
 r:RdF W P a m cap i bs
 k:Kept 0 0 w W
theorem DS.app {w W W':World}{P:Nat}{a:Option Addr}{m cap:Nat}{bs:List Int}{v v':Value}{t:List UInt8}{i:Nat}(h:DS w W P a m cap bs v t i)(hw:w.heap.size≤P){o:Obj}{u:UInt8}{x:Int}(hx:x=(u.toNat:Int))(hy:YB W' (P+1) v' (numsOf t++[x]))(c:Chg (fun b=>v.ownBlock=some b) (W.alloc o) W'):DS w W' P a m cap bs v' (t++[u]) i:=by
 have hb:∀b,v.ownBlock=some b→P<b:=fun b e=>(h.y.blk e).1
 have k1:=kept_alloc 0 0 W o
 refine⟨?_,(h.r.keep k1 (.inr (Nat.le_refl _))).chg c hb,Chg.kept (h.k.trans k1) c (fun b e=>by have:=hb b e;omega)⟩
 have:numsOf (t++[u])=numsOf t++[x]:=by rw[hx];simp[numsOf]
 rw[this]
 exact hy
theorem DS.next {w W W':World}{P:Nat}{a:Option Addr}{m cap:Nat}{bs:List Int}{v:Value}{t:List UInt8}{i j:Nat}(h:DS w W P a m cap bs v t i)(hw:w.heap.size≤P)(r:RdF W' P a m cap j bs)(k:Kept P (P+1) W W'):DS w W' P a m cap bs v t j:=
 ⟨h.y.keepC (k.chgP) (fun g e q=>by have:=(h.y.blk e).1;omega),r,h.k.new k hw⟩
theorem YB.ys {W:World}{B:Nat}{v:Value}{t:List UInt8}(h:YB W B v (numsOf t)):∃b c,v=.slice b t.length c∧YS W b t.length (numsOf t):=by
 have hl:(numsOf t).length=t.length:=by unfold numsOf;rw[List.length_map]
 have hb:∀x∈numsOf t,0≤x∧x<256:=fun x hx=>by
  unfold numsOf at hx
  obtain⟨b,_,rfl⟩:=List.mem_map.1 hx
  have:=b.toNat_lt
  omega
 rcases h.2 with⟨e1,e2⟩|⟨g,c,cur,e1,_⟩
 ·exact⟨none,0,by rw[e1];congr 1;omega,hl,hb,.inl (by omega)⟩
 ·rw[hl] at e1
  subst e1
  refine⟨_,c,rfl,hl,hb,.inr ⟨g,0,rfl,(h.blk rfl).2,fun k hk=>?_⟩⟩
  have:=h.cells (g:=g) rfl k (.int .u8 ((numsOf t).getD k 0)) (by rw[List.getElem?_map,List.getD_eq_getElem?_getD,List.getElem?_eq_getElem (by omega)];rfl)
  rw[add_addr] at this
  exact this
theorem draw3 (w:World)(a:Option Addr)(n cap:Nat)(xs:List Int)(h:YS w a n xs)(hc:n≤cap)(h4:¬nv (xs.take 500) 0%8<4):
  Calls Tryz.prog 4 #[.slice a n cap] w (DrO w (dst (xs.take 500) (nv (xs.take 500) (ni (xs.take 500) (ni (xs.take 500) 0))%12) (ni (xs.take 500) (ni (xs.take 500) (ni (xs.take 500) 0))) (1+nv (xs.take 500) (ni (xs.take 500) 0)%9)).1):=by
 have HO:Hid _:=open_f w a n cap xs h hc
 generalize xs.take 500=bs at*
 clear h hc
 go_enter Tryz.func4,Tryz.ntmps4
 go_upto_region 2 with (go_at_call 9;refine Calls.mono HO.out ?_;rintro e w1 ⟨rfl,⟨m,hr⟩,k1⟩)
 have HN:Hid _:=next_f _ _ _ _ _ _ _ hr
 have HK1:Hid _:=k1
 have q0:¬(nv bs 0:Int)%8=0:=by omega
 have q1:¬(nv bs 0:Int)%8<4:=by omega
 obtain⟨P,hP0⟩:∃P,P=w.heap.size:=⟨_,rfl⟩
 rw[←hP0] at HN ⊢
 have HW:Hid (w.heap.size≤P):=Nat.le_of_eq hP0.symm
 clear hP0
 clear hr k1 HO
 go_upto_region 8 with (go_at_call 10;refine Calls.mono HN.out ?_;rintro e w2 ⟨rfl,hr,k2,z2⟩;have HK2:Hid _:=HK1.out.new k2 HW.out;have HN2:Hid _:=next_f _ _ _ _ _ _ _ hr;clear hr k2 HN z2 HK1)
 clear q0 q1
 obtain⟨L,hL,q0⟩:∃L:Nat,L=nv bs (ni bs 0)%9∧((nv bs (ni bs 0):Nat):Int)%9=(L:Int):=⟨_,rfl,by omega⟩
 have hL9:L<9:=by omega
 have HqL:Hid _:=q0
 clear q0
 go_upto_region 9 with (go_at_call 10;refine Calls.mono HN2.out ?_;rintro e w3 ⟨rfl,hr,k3,z3⟩;have HK3:Hid _:=HK2.out.new k3 HW.out;have HN3:Hid _:=next_f _ _ _ _ _ _ _ hr;clear hr k3 HN2 z3 HK2)
 obtain⟨p,hp,q0⟩:∃p:Nat,p=nv bs (ni bs (ni bs 0))%12∧((nv bs (ni bs (ni bs 0)):Nat):Int)%12=(p:Int):=⟨_,rfl,by omega⟩
 have Hqp:Hid _:=q0
 clear q0
 go_upto_region 10 with (go_at_call 10;refine Calls.mono HN3.out ?_;rintro e w4 ⟨rfl,hr,k4,z4⟩;have HD:Hid (DS w w4 P a m cap bs (.slice none 0 0) [] (ni bs (ni bs (ni bs 0)))):=⟨YB.nil _ _,hr,HK3.out.new k4 HW.out⟩;clear hr k4 HN3 z4 HK3)
 rw[HqL.out,Hqp.out]
 have HLp:Hid _:=And.intro hL hp
 clear HqL Hqp hL hp
 generalize ni bs (ni bs (ni bs 0))=i3 at*
 go_wp2_with fail
 go_loopw [8,9] (fun v x W=>∃j:Nat,j≤1+L∧x=.int .i64 (j:Int)∧Hid (DS w W P a m cap bs v (dst bs p i3 j).1 (dst bs p i3 j).2)) (fun _ x _=>1+L-(intOf x).toNat)
 case atStart=>exact⟨0,Nat.zero_le _,rfl,HD⟩
 case round=>
  obtain⟨j,hj,rfl,hD⟩:=hrel
  by_cases hlt:j<1+L
  ·have HLn:Hid _:=dst_len bs p i3 j
   by_cases hp:j=p
   ·have HT:Hid _:=dst_p bs p i3 j hp
    generalize (dst bs p i3 j).1=t at*
    generalize (dst bs p i3 j).2=i at*
    go_upto_region 16 with (at_builtin;refine wpList_appendY _ rfl _ _ rfl (P+1) _ _ rfl (YB.keep hD.out.y (kept_alloc 0 0 wr _)) ⟨wr.heap.size,0,none⟩ 1 1 [46] rfl rfl (newsA wr _ [46] rfl) (by decide) ?c2 ?c3 ?_)
    case c2=>have:=HLn.out;rw[show(numsOf t).length=t.length from by unfold numsOf;rw[List.length_map]];omega
    case c3=>have:=hD.out.r.lt;simp;omega
    intro g9 cap9 n9 w9 e9 hR9 hC9 hG9
    have HD9:Hid _:=hD.out.app HW.out (u:=46) rfl hR9 hC9
    clear e9 hR9 hC9 hG9 hD
    have HN9:Hid _:=next_f _ _ _ _ _ _ _ HD9.out.r
    obtain⟨d,hd,hq,q0⟩:∃d:Nat,d<10∧nv bs i%10=d∧((nv bs i:Nat):Int)%10=(d:Int):=⟨nv bs i%10,by omega,rfl,by omega⟩
    generalize nv bs i=y at*
    go_upto_region 13 with (first|(go_at_call 10;refine Calls.mono HN9.out ?_;rintro e w5 ⟨rfl,hr5,k5,z5⟩;have HD5:Hid _:=HD9.out.next HW.out hr5 k5;clear hr5 k5 z5)|(at_builtin;refine wpList_appendY _ rfl _ _ rfl (P+1) _ _ rfl (YB.keep HD5.out.y (kept_alloc 0 0 w5 _)) ⟨w5.heap.size,0,none⟩ 1 1 [48+(d:Int)] rfl rfl (newsA w5 _ [48+(d:Int)] rfl) (by decide) ?c2 ?c3 ?_))
    case c2=>have:=HLn.out;rw[show(numsOf (t++[46])).length=t.length+1 from by unfold numsOf;rw[List.length_map,List.length_append];rfl];omega
    case c3=>have:=HD5.out.r.lt;simp;omega
    intro g6 cap6 n6 w6 e6 hR6 hC6 hG6
    have HD6:Hid _:=HD5.out.app HW.out (dig_u8 hd) hR6 hC6
    clear e6 hR6 hC6 hG6 HD5
    rw[hq] at HT
    go_wp2_with fail
    go_roundw
    case rel=>exact⟨j+1,by omega,by go_num,by rw[HT.out];exact HD6⟩
    case measure=>simp[intOf];omega
   ·have HT:Hid _:=dst_n bs p i3 j hp
    generalize (dst bs p i3 j).1=t at*
    generalize (dst bs p i3 j).2=i at*
    have HN9:Hid _:=next_f _ _ _ _ _ _ _ hD.out.r
    obtain⟨d,hd,hq,q0⟩:∃d:Nat,d<10∧nv bs i%10=d∧((nv bs i:Nat):Int)%10=(d:Int):=⟨nv bs i%10,by omega,rfl,by omega⟩
    generalize nv bs i=y at*
    go_upto_region 13 with (first|(go_at_call 10;refine Calls.mono HN9.out ?_;rintro e w5 ⟨rfl,hr5,k5,z5⟩;have HD5:Hid _:=hD.out.next HW.out hr5 k5;clear hr5 k5 z5)|(at_builtin;refine wpList_appendY _ rfl _ _ rfl (P+1) _ _ rfl (YB.keep HD5.out.y (kept_alloc 0 0 w5 _)) ⟨w5.heap.size,0,none⟩ 1 1 [48+(d:Int)] rfl rfl (newsA w5 _ [48+(d:Int)] rfl) (by decide) ?c2 ?c3 ?_))
    case c2=>have:=HLn.out;rw[show(numsOf t).length=t.length from by unfold numsOf;rw[List.length_map]];omega
    case c3=>have:=HD5.out.r.lt;simp;omega
    intro g6 cap6 n6 w6 e6 hR6 hC6 hG6
    have HD6:Hid _:=HD5.out.app HW.out (dig_u8 hd) hR6 hC6
    clear e6 hR6 hC6 hG6 HD5
    rw[hq] at HT
    go_wp2_with fail
    go_roundw
    case rel=>exact⟨j+1,by omega,by go_num,by rw[HT.out];exact HD6⟩
    case measure=>simp[intOf];omega
  ·obtain rfl:j=1+L:=by omega
   obtain⟨b,c,rfl,hy⟩:=hD.out.y.ys
   have HY:Hid _:=hy
   have HKK:Hid _:=hD.out.k
   have hT:dst bs (nv bs (ni bs (ni bs 0))%12) i3 (1+nv bs (ni bs 0)%9)=dst bs p i3 (1+L):=by rw[←HLp.out.1,←HLp.out.2]
   have HTT:Hid _:=hT
   clear hy hD hT
   go_wp2_with fail
   go_ret
   rw[HTT.out]
   exact⟨b,c,rfl,HY.out,HKK.out⟩
end Go.Proofs.YtgamjhpebmmjcaaGreatDoor
namespace Go.Proofs.YtgamjhpebmmjcaaGreatDoor
set_option maxRecDepth 100000
set_option maxHeartbeats 40000000
open Go.RowKit Flt
theorem drawF (w:World)(a:Option Addr)(n cap:Nat)(xs:List Int)(h:YS w a n xs)(hc:n≤cap):Calls Tryz.prog 4 #[.slice a n cap] w (DrO w (drawM (xs.take 500))):=by
 unfold drawM
 by_cases h0:nv (xs.take 500) 0%8=0
 ·rw[if_pos h0];exact draw1 w a n cap xs h hc h0
 ·rw[if_neg h0]
  by_cases h4:nv (xs.take 500) 0%8<4
  ·rw[if_pos h4];exact draw2 w a n cap xs h hc h0 h4
  ·rw[if_neg h4];exact draw3 w a n cap xs h hc h4
theorem l3n_len {x:Nat}(h:x<256):(l3n x).length≤1000:=by
 have h1:=dec10_len x
 have h2:=dec10_len (x/10%6)
 unfold l3n
 repeat' split
 all_goals simp
 all_goals omega
theorem draw_len {w:World}{a:Option Addr}{n:Nat}{xs:List Int}(h:YS w a n xs):(drawM (xs.take 500)).length≤1000:=by
 unfold drawM
 split
 ·have:=tab_len (nv (xs.take 500) (ni (xs.take 500) 0)%13);omega
 ·split
  ·refine l3n_len ?_
   unfold nv
   rw[List.getD_eq_getElem?_getD]
   cases e:(xs.take 500)[ni (xs.take 500) 0]? with
   |none=>decide
   |some x=>
    have:=h.lt x (List.mem_of_mem_take (List.mem_of_getElem? e))
    show x.toNat<256
    omega
  ·have:=dst_len (xs.take 500) (nv (xs.take 500) (ni (xs.take 500) (ni (xs.take 500) 0))%12) (ni (xs.take 500) (ni (xs.take 500) (ni (xs.take 500) 0))) (1+nv (xs.take 500) (ni (xs.take 500) 0)%9)
   omega
end Go.Proofs.YtgamjhpebmmjcaaGreatDoor
namespace Go.Proofs.YtgamjhpebmmjcaaGreatDoor
set_option maxRecDepth 100000
set_option maxHeartbeats 40000000
open Go.RowKit Flt
attribute [local go_sem] alloc_drewN setCell_drewN run_store_float
theorem strN_lies {P:Program}{w w':World}{base:Nat}{t u ty e:TypeId}{i:TypeInfo}(ht:P.underlying t=some (.slice e))(hu:P.underlying u=some .string)(hi:P.info? e=some i)(hz:i.zero=some (.int .u8 0))(hsize:i.size=1)(hby:i.bytes=1)
  {v v':Value} {n:Nat} {xs:List Value} (hown:w.ownsRow base e 1 v n xs) (s:ByteArray) (h0:0<s.size) (hb:n+s.size≤140737488355328)
  (hr:(Builtin.append_ #[t,u] ty #[v,.string s]).run P w=.ok v' w'):∀h,v'.ownBlock=some h→v.ownBlock=some h∨h=w.heap.size:=by
 have hxl:xs.length=n:=by simpa using hown.1
 rcases hown.2 with⟨rfl,rfl⟩|⟨g,cap,cur,rfl,hbg,hg,hnc,hcm,hcs,htake⟩
 ·rw[run_append_nil_string (P:=P) w t u ty e i (.int .u8 0) ht hu hi hz s (by omega) (by omega) (by rw[hby];omega)] at hr
  cases hr
  intro h hh
  simp[Value.ownBlock] at hh
  exact .inr hh.symm
 ·by_cases hroom:n+s.size≤cap
  ·have hcs':cur.size=cap:=by simpa using hcs
   rw[Lib.run_append_room_string (P:=P) w t u ty e i ht hu hi hsize g n cap cur hg s hroom (by omega)] at hr
   cases hr
   exact fun h hh=>.inl hh
  ·have holds:∀j u,xs[j]? =some u→w.cell? ((⟨g,0,none⟩:Addr).add j)=some u:=hown.cells (g:=g) rfl
   rw[Lib.run_append_grow_string (P:=P) w t u ty e i (.int .u8 0) ht hu hi hz ⟨g,0,none⟩ n cap xs (by rw[hsize];simpa using hxl) holds s (by omega) (by omega) (by rw[hby];exact growslice_fits (by omega) (by omega))] at hr
   cases hr
   intro h hh
   simp[Value.ownBlock] at hh
   exact .inr hh.symm
theorem strN_cells (s:List UInt8):Lib.strCells ⟨s.toArray⟩=(numsOf s).map (Value.int .u8):=by
 unfold Lib.strCells numsOf
 simp
theorem numsOf_len (s:List UInt8):(numsOf s).length=s.length:=by unfold numsOf;rw[List.length_map]
theorem wpList_appendN (w:World){ops:Array Oper}{rest:List Oper}{o:Oper}{a:Act}{Q:Exit→Act→World→Prop}(hgd:o.guard=none)(s x:Operand)
  (ho:o.op=.call {callee:=.builtin .append,args:=#[s,x],argTypes:=#[22,9]})
  (B:Nat) (v:Value) (bs:List Int) (hs:a.eval s=v) (hown:YB w B v bs) (l:List UInt8) (hx:a.eval x=strL l)
  (hm:0<l.length) (h63:bs.length+l.length≤100000000) (hbase:B≤w.heap.size)
  (h:∀g cap n w',n=(bs++numsOf l).length→YB w' B (.slice (some ⟨g,0,none⟩) n cap) (bs++numsOf l)→Chg (fun b=>v.ownBlock=some b) w w'→(v.ownBlock=some g∨g=w.heap.size)→wpList Tryz.prog ops Q rest (a.put o.dst (.slice (some ⟨g,0,none⟩) n cap)) w'):wpList Tryz.prog ops Q (o::rest) a w:=by
 obtain⟨i0,hi,hz0,hz1,hz2⟩:=info_parts infoY
 have hsz:(⟨l.toArray⟩:ByteArray).size=l.length:=str_size l
 refine wpList_plain hgd fun K hK=>?_
 obtain⟨v',w',hr,h2,h3,h4⟩:=Lib.run_append_own_string (P:=Tryz.prog) w B 22 9 o.type 5 i0 Tryz.underlying22 Tryz.underlying9 hi hz0 hz1 hz2 v bs.length _ hown ⟨l.toArray⟩ (by unfold maxLen;omega) (by omega) hbase
 have h5:=strN_lies Tryz.underlying22 Tryz.underlying9 hi hz0 hz1 hz2 hown ⟨l.toArray⟩ (by omega) (by omega) hr
 have e:bs.length+(⟨l.toArray⟩:ByteArray).size=(bs++numsOf l).length:=by rw[List.length_append,numsOf_len,hsz]
 have hY:YB w' B v' (bs++numsOf l):=by
  unfold YB
  rw[List.map_append,←strN_cells,←e]
  exact h2
 obtain⟨g,cap,ev,_,_,_⟩:=hY.at_ (by rw[List.length_append,numsOf_len];omega)
 unfold Oper.wp execOp
 simp only[ho,resolve,invoke,builtin,Sem.run_bind,Sem.run_pure,Result.andThen_ok,List.map_toArray,List.map_cons,List.map_nil,hs,hx,hr]
 refine hK _ _ ?_
 rw[ev] at hY h5 ⊢
 exact h g cap _ w' rfl hY (chg_grow h3) (h5 g (by simp[Value.ownBlock]))
end Go.Proofs.YtgamjhpebmmjcaaGreatDoor
