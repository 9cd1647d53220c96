import Derived.Test.YtgamjhpebmmjcaaGreatDoorP02
import Derived.Deep.RegionWith
import Derived.Test.YtgamjhpebmmjcaaGreatDoorP13
import Derived.Lib.IndexLaws
import Derived.Deep.Cut
import Derived.Test.YtgamjhpebmmjcaaGreatDoorP12
import Derived.Test.YtgamjhpebmmjcaaGreatDoorP06
import Derived.Laws.BytesArg
import Derived.Test.YtgamjhpebmmjcaaGreatDoorP01
import Derived.Deep.QuietTactic
import Derived.BigQuiet
namespace Go.Proofs.YtgamjhpebmmjcaaGreatDoor
set_option maxRecDepth 100000
set_option maxHeartbeats 40000000
open Go.RowKit Flt
abbrev strL (l:List UInt8):Value:=.string ⟨l.toArray⟩
theorem ba_app (a b:List UInt8):(⟨a.toArray⟩:ByteArray)++⟨b.toArray⟩=⟨(a++b).toArray⟩:=by
 apply ByteArray.ext
 simp
def dec10 (n:Nat):List UInt8:=if n<10 then[UInt8.ofNat (48+n)] else dec10 (n/10)++dec10 (n%10)
termination_by n
decreasing_by all_goals omega
theorem dec10_len (n:Nat):(dec10 n).length≤n+1:=by
 rw[dec10]
 split
 ·simp
 ·rw[List.length_append]
  have h1:=dec10_len (n/10)
  have h2:(dec10 (n%10)).length=1:=by rw[dec10,if_pos (by omega)];rfl
  omega
termination_by n
decreasing_by all_goals omega
theorem str_size (l:List UInt8):(⟨l.toArray⟩:ByteArray).size=l.length:=by simp[ByteArray.size]
theorem dig_fin:∀k:Fin 10,({data:=#[48,49,50,51,52,53,54,55,56,57]}:ByteArray).extract k.1 (k.1+1)=⟨#[UInt8.ofNat (48+k.1)]⟩:=by decide+kernel
theorem dec_small (n:Nat)(hn:n<10)(w:World):Calls Tryz.prog 19 #[.int .i64 (n:Int)] w fun e w'=>e=.returned (strL (dec10 n))∧w'=w:=by
 have hd:dec10 n=[UInt8.ofNat (48+n)]:=by rw[dec10,if_pos hn]
 have hx:({data:=#[48,49,50,51,52,53,54,55,56,57]}:ByteArray).extract n (n+1)=⟨(dec10 n).toArray⟩:=by rw[hd];exact dig_fin ⟨n,hn⟩
 unfold strL
 generalize (⟨(dec10 n).toArray⟩:ByteArray)=sd at hx
 have t1:(n:Int)<10:=by omega
 have t2:IntKind.i64.wrap ((n:Int)+1)=(n:Int)+1:=by rw[IntKind.wrap_i64];omega
 have t3:(0:Int)≤(n:Int):=by omega
 clear hd
 go_enter Tryz.func19,Tryz.ntmps19
 go_wp2
 go_ret
 exact⟨rfl,rfl⟩
theorem l6dec:∀(N n:Nat),n≤N→n≤1000000→∀w:World,Calls Tryz.prog 19 #[.int .i64 (n:Int)] w fun e w'=>e=.returned (strL (dec10 n))∧w'=w:=by
 intro N
 induction N with
 |zero=>
  intro n h _ w
  exact dec_small n (by omega) w
 |succ N ih=>
  intro n h hb w
  by_cases hn:n<10
  ·exact dec_small n hn w
  ·have hd:dec10 n=dec10 (n/10)++dec10 (n%10):=by rw[dec10,if_neg hn]
   have H1:Hid (∀w:World,Calls Tryz.prog 19 #[.int .i64 ((n:Int)/10)] w fun e w'=>e=.returned (strL (dec10 (n/10)))∧w'=w):=ih (n/10) (by omega) (by omega)
   have H2:Hid (∀w:World,Calls Tryz.prog 19 #[.int .i64 ((n:Int)%10)] w fun e w'=>e=.returned (strL (dec10 (n%10)))∧w'=w):=ih (n%10) (by omega) (by omega)
   have t1:¬((n:Int)<10):=by omega
   unfold strL at H1 H2 ⊢
   rw[hd,←ba_app]
   have hz:¬(9223372036854775807<(⟨(dec10 (n/10)).toArray⟩:ByteArray).size+(⟨(dec10 (n%10)).toArray⟩:ByteArray).size):=by
    rw[str_size,str_size]
    have:=dec10_len (n/10)
    have:=dec10_len (n%10)
    omega
   generalize (⟨(dec10 (n/10)).toArray⟩:ByteArray)=a at H1 hz
   generalize (⟨(dec10 (n%10)).toArray⟩:ByteArray)=b at H2 hz
   clear ih hd
   go_enter Tryz.func19,Tryz.ntmps19
   go_wp2_with fail
   refine Calls.mono (H1.out w) ?_
   rintro e w1 ⟨rfl,rfl⟩
   go_wp2_with fail
   refine Calls.mono (H2.out w1) ?_
   rintro e w2 ⟨rfl,rfl⟩
   go_wp2_with fail
   go_ret
   exact⟨rfl,rfl⟩
end Go.Proofs.YtgamjhpebmmjcaaGreatDoor
namespace Go.Proofs.YtgamjhpebmmjcaaGreatDoor
set_option maxRecDepth 100000
set_option maxHeartbeats 40000000
open Go.RowKit Flt
attribute [local go_sem] alloc_drewN setCell_drewN run_store_float
theorem numEndS (w:World)(g off n cap:Nat)(t:List UInt8)(f:TxS w g off n t)(hn:n≤1048576)(i:Nat)(hi:i<n):
  Calls Tryz.prog 14 #[.slice (some ⟨g,off,none⟩) n cap,.int .i64 (i:Int)] w fun e w'=>e=.returned (.int .i64 (numE t i:Nat))∧w'=w:=by
 have HR:Hid _:=runED w g off n cap t f hn i (by omega)
 have hE:=runE_le dig t i (by rw[f.len];omega)
 rw[f.len] at hE
 have HN:Hid (numE t i=if runE dig t i+1<n∧bt t (runE dig t i)=46∧dig (bt t (runE dig t i+1))=true then runE dig t (runE dig t i+1) else runE dig t i):=by show _=_;unfold numE;rw[f.len]
 generalize numE t i=M at HN ⊢
 have HF:Hid _:=f
 generalize runE dig t i=E at HR hE HN
 by_cases h1:E+1<n
 ·have c1:=f.at_ E (by omega)
  have c2:=f.at_ (E+1) h1
  have HD:Hid _:=isDig (bt t (E+1)) w
  have HR2:Hid _:=runED w g off n cap t f hn (E+1) (by omega)
  generalize runE dig t (E+1)=E2 at HR2 HN
  have h1':(E:Int)+1<(n:Int):=by omega
  clear f
  cases h2:(bt t E==46)
  ·have R:Hid (M=E):=HN.out.trans (if_neg (fun c=>by rw[c.2.1] at h2;simp at h2))
   generalize bt t E=x at c1 h2
   go_enter Tryz.func14,Tryz.ntmps14
   go_wp2_with (go_at_call 20;refine Calls.mono HR.out ?_;rintro e w2 ⟨rfl,hw⟩;obtain rfl:=hw.symm)
   go_ret
   rw[R.out]
   exact⟨rfl,rfl⟩
  ·cases h3:dig (bt t (E+1))
   ·have R:Hid (M=E):=HN.out.trans (if_neg (fun c=>by rw[c.2.2] at h3;cases h3))
    rw[h3] at HD
    generalize bt t E=x at c1 h2
    generalize bt t (E+1)=y at c2 HD
    clear h3
    go_enter Tryz.func14,Tryz.ntmps14
    go_wp2_with (first
     |(go_at_call 20;refine Calls.mono HR.out ?_;rintro e w2 ⟨rfl,hw⟩;obtain rfl:=hw.symm)
     |(go_at_call 13;refine Calls.mono HD.out ?_;rintro e w3 ⟨rfl,hw⟩;obtain rfl:=hw.symm))
    go_ret
    rw[R.out]
    exact⟨rfl,rfl⟩
   ·have R:Hid (M=E2):=HN.out.trans (if_pos ⟨h1,eq_of_beq h2,h3⟩)
    rw[h3] at HD
    generalize bt t E=x at c1 h2
    generalize bt t (E+1)=y at c2 HD
    clear h3
    go_enter Tryz.func14,Tryz.ntmps14
    go_upto_region 2 with (go_at_call 20;refine Calls.mono HR.out ?_;rintro e w2 ⟨rfl,hw⟩;obtain rfl:=hw.symm)
    go_upto_region 3 with (go_at_call 13;refine Calls.mono HD.out ?_;rintro e w3 ⟨rfl,hw⟩;obtain rfl:=hw.symm)
    go_wp2_with (go_at_call 20;refine Calls.mono HR2.out ?_;rintro e w2 ⟨rfl,hw⟩;obtain rfl:=hw.symm)
    go_ret
    rw[R.out]
    exact⟨rfl,rfl⟩
 ·have R:Hid (M=E):=HN.out.trans (if_neg (fun c=>h1 c.1))
  have h1':¬(E:Int)+1<(n:Int):=by omega
  clear f
  go_enter Tryz.func14,Tryz.ntmps14
  go_wp2_with (go_at_call 20;refine Calls.mono HR.out ?_;rintro e w2 ⟨rfl,hw⟩;obtain rfl:=hw.symm)
  go_ret
  rw[R.out]
  exact⟨rfl,rfl⟩
theorem idxLite (s:ByteArray)(c:Int)(w:World):
  Calls Tryz.prog 81 #[.string s,.int .u8 c] w fun e w'=>e=.returned (.int .i64 (Lib.indexByte s.data.toList c.toNat.toUInt8))∧w'=w:=by
 go_enter Tryz.func81,Tryz.ntmps81
 go_wp2
 rw[run_callFunc_extern Tryz.func127 (by kernel_rfl) (by kernel_rfl) (by kernel_rfl) (e:=Extern.BytealgIndexByte.indexByte) (by kernel_rfl),Lib.run_indexByteString]
 simp only[Result.andThen]
 rw[Oper.upon_value]
 go_wp2
 go_ret
 exact⟨rfl,rfl⟩
theorem idxByte (s:ByteArray)(c:Int)(w:World):
  Calls Tryz.prog 89 #[.string s,.int .u8 c] w fun e w'=>e=.returned (.int .i64 (Lib.indexByte s.data.toList c.toNat.toUInt8))∧w'=w:=by
 have HL:Hid _:=idxLite s c w
 go_enter Tryz.func89,Tryz.ntmps89
 go_wp2_with (go_at_call 81;refine Calls.mono HL.out ?_;rintro e w2 ⟨rfl,hw⟩;obtain rfl:=hw.symm)
 go_ret
 exact⟨rfl,rfl⟩
theorem idx_mem:∀(l:List UInt8) (c:UInt8),decide (0≤Lib.indexByte l c)=decide (c∈l)
 |[],c=>rfl
 |b::l,c=>by
  have ih:=idx_mem l c
  have ge:=Lib.indexByte_ge l c
  rw[Lib.indexByte]
  by_cases h:(b==c)=true
  ·rw[if_pos h]
   have e:b=c:=eq_of_beq h
   subst e
   simp
  ·rw[if_neg h]
   have hne:c≠b:=fun e=>h (by rw[e];simp)
   by_cases k:(Lib.indexByte l c==-1)=true
   ·rw[if_pos k]
    rw[eq_of_beq k] at ih
    have:c∉l:=fun m=>by rw[decide_eq_true m] at ih;revert ih;decide
    simp[hne,this]
   ·rw[if_neg k]
    have k':Lib.indexByte l c≠-1:=fun e=>k (by rw[e];decide)
    have p:0≤Lib.indexByte l c:=by omega
    rw[decide_eq_true p] at ih
    have m:c∈l:=of_decide_eq_true ih.symm
    rw[decide_eq_true (show 0≤Lib.indexByte l c+1 by omega),decide_eq_true (List.mem_cons_of_mem _ m)]
def mrkB (x:Int):Bool:=decide (x.toNat.toUInt8∈onesL)
theorem isMrkS (c:Int)(w:World):Calls Tryz.prog 55 #[.int .u8 c] w fun e w'=>e=.returned (.bool (mrkB c))∧w'=w:=by
 have HI:Hid _:=idxByte ⟨#[43,45,42,47,40,41,44,59,58,61]⟩ c w
 have HM:Hid (mrkB c=decide (0≤Lib.indexByte (ByteArray.mk #[43,45,42,47,40,41,44,59,58,61]).data.toList c.toNat.toUInt8)):=(idx_mem onesL c.toNat.toUInt8).symm
 generalize Lib.indexByte (ByteArray.mk #[43,45,42,47,40,41,44,59,58,61]).data.toList c.toNat.toUInt8=q at HI HM
 generalize mrkB c=b at HM ⊢
 go_enter Tryz.func55,Tryz.ntmps55
 go_wp2_with (go_at_call 89;refine Calls.mono HI.out ?_;rintro e w2 ⟨rfl,hw⟩;obtain rfl:=hw.symm)
 go_ret
 rw[HM.out]
 exact⟨rfl,rfl⟩
def keyB (s:List UInt8):Bool:=decide (s∈keysL)
theorem isKeyS (s:List UInt8)(w:World):Calls Tryz.prog 90 #[strL s] w fun e w'=>e=.returned (.bool (keyB s))∧w'=w:=by
 by_cases h0:s=[105,110]
 ·rw[show keyB s=true by rw[h0];decide]
  subst h0
  go_enter Tryz.func90,Tryz.ntmps90
  go_wp2
  go_ret
  exact⟨rfl,rfl⟩
 by_cases h1:s=[108,101,116]
 ·rw[show keyB s=true by rw[h1];decide]
  subst h1
  go_enter Tryz.func90,Tryz.ntmps90
  go_wp2
  go_ret
  exact⟨rfl,rfl⟩
 by_cases h2:s=[111,117,116]
 ·rw[show keyB s=true by rw[h2];decide]
  subst h2
  go_enter Tryz.func90,Tryz.ntmps90
  go_wp2
  go_ret
  exact⟨rfl,rfl⟩
 by_cases h3:s=[100,101,102]
 ·rw[show keyB s=true by rw[h3];decide]
  subst h3
  go_enter Tryz.func90,Tryz.ntmps90
  go_wp2
  go_ret
  exact⟨rfl,rfl⟩
 by_cases h4:s=[114,101,112,101,97,116]
 ·rw[show keyB s=true by rw[h4];decide]
  subst h4
  go_enter Tryz.func90,Tryz.ntmps90
  go_wp2
  go_ret
  exact⟨rfl,rfl⟩
 by_cases h5:s=[101,120,112]
 ·rw[show keyB s=true by rw[h5];decide]
  subst h5
  go_enter Tryz.func90,Tryz.ntmps90
  go_wp2
  go_ret
  exact⟨rfl,rfl⟩
 by_cases h6:s=[115,117,109]
 ·rw[show keyB s=true by rw[h6];decide]
  subst h6
  go_enter Tryz.func90,Tryz.ntmps90
  go_wp2
  go_ret
  exact⟨rfl,rfl⟩
 by_cases h7:s=[109,97,120]
 ·rw[show keyB s=true by rw[h7];decide]
  subst h7
  go_enter Tryz.func90,Tryz.ntmps90
  go_wp2
  go_ret
  exact⟨rfl,rfl⟩
 by_cases h8:s=[100,111,116]
 ·rw[show keyB s=true by rw[h8];decide]
  subst h8
  go_enter Tryz.func90,Tryz.ntmps90
  go_wp2
  go_ret
  exact⟨rfl,rfl⟩
 by_cases h9:s=[115,101,108]
 ·rw[show keyB s=true by rw[h9];decide]
  subst h9
  go_enter Tryz.func90,Tryz.ntmps90
  go_wp2
  go_ret
  exact⟨rfl,rfl⟩
 by_cases h10:s=[102,105,108,108]
 ·rw[show keyB s=true by rw[h10];decide]
  subst h10
  go_enter Tryz.func90,Tryz.ntmps90
  go_wp2
  go_ret
  exact⟨rfl,rfl⟩
 by_cases h11:s=[112,105,99,107]
 ·rw[show keyB s=true by rw[h11];decide]
  subst h11
  go_enter Tryz.func90,Tryz.ntmps90
  go_wp2
  go_ret
  exact⟨rfl,rfl⟩
 by_cases h12:s=[112,117,116]
 ·rw[show keyB s=true by rw[h12];decide]
  subst h12
  go_enter Tryz.func90,Tryz.ntmps90
  go_wp2
  go_ret
  exact⟨rfl,rfl⟩
 by_cases h13:s=[103,114,97,100]
 ·rw[show keyB s=true by rw[h13];decide]
  subst h13
  go_enter Tryz.func90,Tryz.ntmps90
  go_wp2
  go_ret
  exact⟨rfl,rfl⟩
 by_cases h14:s=[106,118,112]
 ·rw[show keyB s=true by rw[h14];decide]
  subst h14
  go_enter Tryz.func90,Tryz.ntmps90
  go_wp2
  go_ret
  exact⟨rfl,rfl⟩
 have hk:keyB s=false:=by unfold keyB keysL;simp[h0,h1,h2,h3,h4,h5,h6,h7,h8,h9,h10,h11,h12,h13,h14]
 rw[hk]
 clear hk
 have b0:(s==[105,110])=false:=beq_false_of_ne h0
 have b1:(s==[108,101,116])=false:=beq_false_of_ne h1
 have b2:(s==[111,117,116])=false:=beq_false_of_ne h2
 have b3:(s==[100,101,102])=false:=beq_false_of_ne h3
 have b4:(s==[114,101,112,101,97,116])=false:=beq_false_of_ne h4
 have b5:(s==[101,120,112])=false:=beq_false_of_ne h5
 have b6:(s==[115,117,109])=false:=beq_false_of_ne h6
 have b7:(s==[109,97,120])=false:=beq_false_of_ne h7
 have b8:(s==[100,111,116])=false:=beq_false_of_ne h8
 have b9:(s==[115,101,108])=false:=beq_false_of_ne h9
 have b10:(s==[102,105,108,108])=false:=beq_false_of_ne h10
 have b11:(s==[112,105,99,107])=false:=beq_false_of_ne h11
 have b12:(s==[112,117,116])=false:=beq_false_of_ne h12
 have b13:(s==[103,114,97,100])=false:=beq_false_of_ne h13
 have b14:(s==[106,118,112])=false:=beq_false_of_ne h14
 clear h0 h1 h2 h3 h4 h5 h6 h7 h8 h9 h10 h11 h12 h13 h14
 go_enter Tryz.func90,Tryz.ntmps90
 go_wp2
 go_ret
 exact⟨rfl,rfl⟩
end Go.Proofs.YtgamjhpebmmjcaaGreatDoor
namespace Go.Proofs.YtgamjhpebmmjcaaGreatDoor
set_option maxRecDepth 100000
set_option maxHeartbeats 40000000
open Go.RowKit Flt
attribute [local go_sem] alloc_drewN setCell_drewN run_store_float
theorem bt_cut {t:List UInt8}{i j k:Nat}(hk:k<j-i):bt (cutT t i j) k=bt t (i+k):=by
 unfold bt cutT
 rw[List.getD_eq_getElem?_getD,List.getElem?_take_of_lt hk,List.getElem?_drop,←List.getD_eq_getElem?_getD]
def numsOf (t:List UInt8):List Int:=t.map fun b=>(b.toNat:Int)
theorem numsOf_at (t:List UInt8)(k:Nat)(h:k<t.length):(numsOf t).getD k 0=bt t k:=by
 unfold numsOf bt
 rw[List.getD_eq_getElem?_getD,List.getElem?_map,List.getD_eq_getElem?_getD,List.getElem?_eq_getElem h]
 rfl
theorem str_nums (t:List UInt8):strOfNums (numsOf t)=⟨t.toArray⟩:=by
 unfold strOfNums numsOf
 congr 1
 rw[List.map_map]
 congr 1
 conv=>rhs;rw[←List.map_id t]
 apply List.map_congr_left
 intro b _
 simp
theorem conv_text {w:World}{g off n:Nat}{t:List UInt8}(f:TxS w g off n t)(c:Nat):(convert 22 9 (.slice (some ⟨g,off,none⟩) n c)).run Tryz.prog w=.ok (strL t) w:=by
 have hb:Tryz.prog.underlying 5=some (.int .u8):=by kernel_rfl
 have hs:Tryz.prog.underlying 9=some .string:=by kernel_rfl
 have h:=run_convert_bytes_arg w 22 5 Tryz.underlying22 hb g off n c (numsOf t) (by unfold numsOf;rw[List.length_map];exact f.len) (fun k hk=>by rw[numsOf_at t k (by rw[f.len];exact hk)];exact f.at_ k hk) 9 hs
 rw[str_nums] at h
 exact h
theorem TxS.cut {w:World}{g off n:Nat}{t:List UInt8}(f:TxS w g off n t){i j:Nat}(hj:j≤n):TxS w g (off+i) (j-i) (cutT t i j):=
 ⟨cutT_len (by rw[f.len];exact hj),f.lt,fun k hk=>by
  rw[bt_cut hk,Nat.add_assoc]
  exact f.at_ (i+k) (by omega)⟩
end Go.Proofs.YtgamjhpebmmjcaaGreatDoor
namespace Go.Proofs.YtgamjhpebmmjcaaGreatDoor
set_option maxRecDepth 100000
set_option maxHeartbeats 40000000
open Go.RowKit Flt
structure RdF (w:World)(P:Nat)(a:Option Addr)(n cap i:Nat)(bs:List Int):Prop where
 lt:P<w.heap.size
 c0:w.cell? ⟨P,0,none⟩=some (.slice a n cap)
 c1:w.cell? ⟨P,1,none⟩=some (.int .i64 (i:Int))
 fz:w.frozen? ⟨P,1,none⟩=false
 hi:i≤n
 small:n≤500
 ys:YS w a n bs
 ne:0<n→∀g off,a=some ⟨g,off,none⟩→g<P
theorem ys_keepR {w w':World}{a:Option Addr}{n P h:Nat}{xs:List Int}(f:YS w a n xs)(k:Kept P h w w')(ne:0<n→∀g off,a=some ⟨g,off,none⟩→g<P):YS w' a n xs:=
 ⟨f.len,f.lt,f.at_.imp id fun⟨g,off,e,h3,h4⟩=>⟨g,off,e,Nat.lt_of_lt_of_le h3 k.size,fun j hj=>by rw[k.cell (p:=⟨g,off+j,none⟩) h3 (by have:=ne (by omega) g off e;show ¬(P≤g∧g<h);omega)];exact h4 j hj⟩⟩
theorem RdF.keep {w w':World}{P:Nat}{a:Option Addr}{n cap i l h:Nat}{bs:List Int}(f:RdF w P a n cap i bs)(k:Kept l h w w')(hd:P<l∨h≤l):RdF w' P a n cap i bs where
 lt:=Nat.lt_of_lt_of_le f.lt k.size
 c0:=by rw[k.cell (p:=⟨P,0,none⟩) f.lt (by show ¬(l≤P∧P<h);omega)];exact f.c0
 c1:=by rw[k.cell (p:=⟨P,1,none⟩) f.lt (by show ¬(l≤P∧P<h);omega)];exact f.c1
 fz:=by rw[k.frozen (p:=⟨P,1,none⟩) f.lt (by show ¬(l≤P∧P<h);omega)];exact f.fz
 hi:=f.hi
 small:=f.small
 ys:=⟨f.ys.len,f.ys.lt,f.ys.at_.imp id fun⟨g,off,e,h3,h4⟩=>⟨g,off,e,Nat.lt_of_lt_of_le h3 k.size,fun j hj=>by rw[k.cell (p:=⟨g,off+j,none⟩) h3 (by have:=f.ne (by omega) g off e;show ¬(l≤g∧g<h);omega)];exact h4 j hj⟩⟩
 ne:=f.ne
def nv (bs:List Int)(i:Nat):Nat:=(bs.getD i 0).toNat
def ni (bs:List Int)(i:Nat):Nat:=if i<bs.length then i+1 else i
theorem nv_lt {w:World}{a:Option Addr}{n:Nat}{bs:List Int}(f:YS w a n bs)(i:Nat):nv bs i<256:=by
 unfold nv
 by_cases h:i<bs.length
 ·have:=f.lt _ (List.getElem_mem h)
  rw[List.getD_eq_getElem?_getD,List.getElem?_eq_getElem h]
  show(bs[i]).toNat<256
  omega
 ·rw[List.getD_eq_getElem?_getD,List.getElem?_eq_none (by omega)]
  decide
theorem rd_step {w:World}{P:Nat}{a:Option Addr}{n cap i:Nat}{bs:List Int}(f:RdF w P a n cap i bs)(hi:i<n):
  RdF (w.setCell ⟨P,1,none⟩ (.int .i64 ((i:Int)+1))) P a n cap (i+1) bs∧Kept P (P+1) w (w.setCell ⟨P,1,none⟩ (.int .i64 ((i:Int)+1)))∧(w.setCell ⟨P,1,none⟩ (.int .i64 ((i:Int)+1))).heap.size=w.heap.size:=by
 have kk:Kept P (P+1) w (w.setCell ⟨P,1,none⟩ (.int .i64 ((i:Int)+1))):=kept_setCell w ⟨P,1,none⟩ _ (.inl ⟨Nat.le_refl _,Nat.lt_succ_self _⟩)
 exact⟨⟨by simpa using f.lt,by rw[World.cell?_setCell_other (h:=by simp)];exact f.c0,by rw[World.cell?_setCell_same (h:=f.c1)];rfl,by rw[World.frozen?_setCell];exact f.fz,hi,f.small,ys_keepR f.ys kk f.ne,f.ne⟩,kk,by simp⟩
theorem next_f (w:World)(P:Nat)(a:Option Addr)(n cap i:Nat)(bs:List Int)(f:RdF w P a n cap i bs):
  Calls Tryz.prog 10 #[.pointer (some ⟨P,0,none⟩)] w fun e w'=>e=.returned (.int .i64 (nv bs i:Int))∧RdF w' P a n cap (ni bs i) bs∧Kept P (P+1) w w'∧w'.heap.size=w.heap.size:=by
 have h0:=f.c0
 have h1:=f.c1
 have hn:=f.small
 have hl:=f.ys.len
 by_cases hi:i<n
 ·have h2:=f.fz
  obtain⟨B,off,rfl,hB,hx⟩:∃B off,a=some ⟨B,off,none⟩∧B<w.heap.size∧w.cell? ⟨B,off+i,none⟩=some (.int .u8 (bs.getD i 0)):=by
   rcases f.ys.at_ with q|⟨g,off,e,h3,h4⟩
   ·omega
   ·exact⟨g,off,e,h3,h4 i hi⟩
  have hb:0≤bs.getD i 0∧bs.getD i 0<256:=by
   rw[List.getD_eq_getElem?_getD,List.getElem?_eq_getElem (by omega)]
   exact f.ys.lt _ (List.getElem_mem _)
  obtain⟨hx0,hx1⟩:=hb
  have hv:(nv bs i:Int)=bs.getD i 0:=by unfold nv;omega
  have hni:ni bs i=i+1:=by unfold ni;rw[if_pos (by omega)]
  have HF:Hid _:=f
  rw[hv,hni]
  generalize bs.getD i 0=x at hx hx0 hx1 hv
  clear f hv hni hB
  go_enter Tryz.func10,Tryz.ntmps10
  go_wp2
  go_quiet (fail)
  go_wp2
  go_quiet (fail)
  go_wp2
  go_ret
  have k0:=kept_drewN P (P+1) w
  obtain⟨r1,r2,r3⟩:=rd_step (HF.out.keep (kept_drewN 0 0 w _) (.inr (Nat.le_refl _))) hi
  exact⟨rfl,r1,(k0 _).trans r2,r3⟩
 ·have hv:(nv bs i:Int)=0:=by
   unfold nv
   rw[List.getD_eq_getElem?_getD,List.getElem?_eq_none (by omega)]
   rfl
  have hni:ni bs i=i:=by unfold ni;rw[if_neg (by omega)]
  have HF:Hid _:=f
  rw[hv,hni]
  have hi:n≤i:=by omega
  clear f hv hni
  go_enter Tryz.func10,Tryz.ntmps10
  go_wp2
  go_quiet (fail)
  go_wp2
  go_ret
  exact⟨rfl,HF.out.keep (kept_drewN 0 0 _ _) (.inr (Nat.le_refl _)),kept_drewN _ _ _ _,rfl⟩
end Go.Proofs.YtgamjhpebmmjcaaGreatDoor
namespace Go.Proofs.YtgamjhpebmmjcaaGreatDoor
set_option maxRecDepth 100000
set_option maxHeartbeats 40000000
open Go.RowKit Flt
def l3n (x:Nat):List UInt8:=if x%10<6 then dec10 (x/10%6) else if x%10=6 then dec10 x++[46,53] else if x%10=7 then[48,46]++dec10 x else if x%10=8 then[49] else ([48,48]++dec10 x)++[46,50,53,48,48]
theorem l3number_f (w:World)(P:Nat)(a:Option Addr)(n cap i:Nat)(bs:List Int)(f:RdF w P a n cap i bs):
  Calls Tryz.prog 11 #[.pointer (some ⟨P,0,none⟩)] w fun e w'=>e=.returned (strL (l3n (nv bs i)))∧RdF w' P a n cap (ni bs i) bs∧Kept P (P+1) w w'∧w'.heap.size=w.heap.size:=by
 have HN:Hid _:=next_f w P a n cap i bs f
 have hx:=nv_lt f.ys i
 generalize nv bs i=x at HN hx ⊢
 have HD:Hid (∀W:World,Calls Tryz.prog 19 #[.int .i64 (x:Int)] W fun e w'=>e=.returned (strL (dec10 x))∧w'=W):=l6dec x x (Nat.le_refl _) (by omega)
 have HD6:Hid (∀W:World,Calls Tryz.prog 19 #[.int .i64 ((x:Int)/10%6)] W fun e w'=>e=.returned (strL (dec10 (x/10%6)))∧w'=W):=l6dec (x/10%6) (x/10%6) (Nat.le_refl _) (by omega)
 have HL:Hid ((dec10 x).length≤300):=by have:=dec10_len x;show _≤_;omega
 clear f
 unfold l3n
 rcases (by omega:x%10<6∨x%10=6∨x%10=7∨x%10=8∨x%10=9) with c|c|c|c|c
 ·rw[if_pos c]
  have c1:(x:Int)%10<6:=by omega
  unfold strL at HD6 ⊢
  go_enter Tryz.func11,Tryz.ntmps11
  go_wp2_with (first|(go_at_call 10;refine Calls.mono HN.out ?_;rintro e w1 ⟨rfl,hr,k1,z1⟩)|(go_at_call 19;refine Calls.mono (HD6.out _) ?_;rintro e w2 ⟨rfl,rfl⟩))
  go_ret
  exact⟨rfl,hr,k1,z1⟩
 ·rw[if_neg (by omega),if_pos c]
  have c1:(x:Int)%10=6:=by omega
  unfold strL at HD ⊢
  rw[←ba_app]
  have hz:¬(9223372036854775807<(⟨(dec10 x).toArray⟩:ByteArray).size+(⟨#[46,53]⟩:ByteArray).size):=by
   rw[str_size]
   have:=HL.out
   simp[ByteArray.size]
   omega
  generalize (⟨(dec10 x).toArray⟩:ByteArray)=sa at HD hz ⊢
  go_enter Tryz.func11,Tryz.ntmps11
  go_wp2_with (first|(go_at_call 10;refine Calls.mono HN.out ?_;rintro e w1 ⟨rfl,hr,k1,z1⟩)|(go_at_call 19;refine Calls.mono (HD.out _) ?_;rintro e w2 ⟨rfl,rfl⟩))
  go_ret
  exact⟨rfl,hr,k1,z1⟩
 ·rw[if_neg (by omega),if_neg (by omega),if_pos c]
  have c1:(x:Int)%10=7:=by omega
  unfold strL at HD ⊢
  rw[←ba_app]
  have hz:¬(9223372036854775807<(⟨#[48,46]⟩:ByteArray).size+(⟨(dec10 x).toArray⟩:ByteArray).size):=by
   rw[str_size]
   have:=HL.out
   simp[ByteArray.size]
   omega
  generalize (⟨(dec10 x).toArray⟩:ByteArray)=sa at HD hz ⊢
  go_enter Tryz.func11,Tryz.ntmps11
  go_wp2_with (first|(go_at_call 10;refine Calls.mono HN.out ?_;rintro e w1 ⟨rfl,hr,k1,z1⟩)|(go_at_call 19;refine Calls.mono (HD.out _) ?_;rintro e w2 ⟨rfl,rfl⟩))
  go_ret
  exact⟨rfl,hr,k1,z1⟩
 ·rw[if_neg (by omega),if_neg (by omega),if_neg (by omega),if_pos c]
  have c1:(x:Int)%10=8:=by omega
  go_enter Tryz.func11,Tryz.ntmps11
  go_wp2_with (go_at_call 10;refine Calls.mono HN.out ?_;rintro e w1 ⟨rfl,hr,k1,z1⟩)
  go_ret
  exact⟨rfl,hr,k1,z1⟩
 ·rw[if_neg (by omega),if_neg (by omega),if_neg (by omega),if_neg (by omega)]
  have c1:(x:Int)%10=9:=by omega
  unfold strL at HD ⊢
  rw[←ba_app,←ba_app]
  have hz:¬(9223372036854775807<(⟨#[48,48]⟩:ByteArray).size+(⟨(dec10 x).toArray⟩:ByteArray).size):=by
   rw[str_size]
   have:=HL.out
   simp[ByteArray.size]
   omega
  have hz2:¬(9223372036854775807<((⟨#[48,48]⟩:ByteArray)++(⟨(dec10 x).toArray⟩:ByteArray)).size+(⟨#[46,50,53,48,48]⟩:ByteArray).size):=by
   rw[ByteArray.size_append,str_size]
   have:=HL.out
   simp[ByteArray.size]
   omega
  generalize (⟨(dec10 x).toArray⟩:ByteArray)=sa at HD hz hz2 ⊢
  go_enter Tryz.func11,Tryz.ntmps11
  go_wp2_with (first|(go_at_call 10;refine Calls.mono HN.out ?_;rintro e w1 ⟨rfl,hr,k1,z1⟩)|(go_at_call 19;refine Calls.mono (HD.out _) ?_;rintro e w2 ⟨rfl,rfl⟩))
  go_ret
  exact⟨rfl,hr,k1,z1⟩
end Go.Proofs.YtgamjhpebmmjcaaGreatDoor
