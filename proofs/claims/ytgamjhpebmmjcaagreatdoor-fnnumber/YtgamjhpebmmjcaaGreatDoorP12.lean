import Derived.Test.YtgamjhpebmmjcaaGreatDoorP02
import Derived.Test.YtgamjhpebmmjcaaGreatDoorP04
import Derived.Lib.Strings
import Derived.Lib.Bytealg
import Derived.Laws.BytesArg
namespace Go.Proofs.YtgamjhpebmmjcaaGreatDoor
set_option maxRecDepth 100000
set_option maxHeartbeats 40000000
open Go.RowKit Flt
def dig (c:Int):Bool:=decide (48≤c)&&decide (c≤57)
theorem dig_true {c:Int}(h:dig c=true):48≤c∧c≤57:=by simp[dig] at h;exact h
theorem dig_46:dig 46=false:=by decide
structure GoodAt (xs:List Int)(p:Int):Prop where
 pos:0<xs.length
 point:∀i,i<xs.length→(xs.getD i 0=46↔(i:Int)=p)
 digit:∀i,i<xs.length→xs.getD i 0≠46→dig (xs.getD i 0)=true
 place:p=-1∨(0<p∧p+1<xs.length)
def Good (xs:List Int):Prop:=∃p,GoodAt xs p
def nst (s:Int×Int×Bool)(c:Int):Int×Int×Bool:=if c=46 then (s.1,s.2.1,true) else (s.1*10+(c-48),if s.2.2 then s.2.1*10 else s.2.1,s.2.2)
def nds (xs:List Int):Int×Int×Bool:=xs.foldl nst (0,1,false)
theorem take_snoc (xs:List Int)(k:Nat)(hk:k<xs.length):xs.take (k+1)=xs.take k++[xs.getD k 0]:=by
 rw[List.take_succ_eq_append_getElem hk,List.getD_eq_getElem?_getD,List.getElem?_eq_getElem hk];rfl
theorem nds_snoc (xs:List Int)(k:Nat)(hk:k<xs.length):nds (xs.take (k+1))=nst (nds (xs.take k)) (xs.getD k 0):=by
 rw[take_snoc xs k hk,nds,List.foldl_append];rfl
theorem cnt_snoc (q:Int→Bool)(xs:List Int)(k:Nat)(hk:k<xs.length):(xs.take (k+1)).countP q=(xs.take k).countP q+if q (xs.getD k 0) then 1 else 0:=by
 rw[take_snoc xs k hk,List.countP_append]
 simp[List.countP_cons]
theorem nds_bound (xs:List Int)(h:∀i,i<xs.length→xs.getD i 0≠46→dig (xs.getD i 0)=true):∀k,k≤xs.length→
  0≤(nds (xs.take k)).1∧(nds (xs.take k)).1<10 ^ k∧1≤(nds (xs.take k)).2.1∧(nds (xs.take k)).2.1≤10 ^ k
 |0,_=>by simp[nds]
 |k+1,hk=>by
  obtain⟨h1,h2,h3,h4⟩:=nds_bound xs h k (by omega)
  have hp:(10:Int) ^ (k+1)=10 ^ k*10:=by rw[Int.pow_succ]
  rw[nds_snoc xs k (by omega),hp]
  unfold nst
  by_cases c:xs.getD k 0=46
  ·rw[if_pos c]
   exact⟨h1,by simp only;omega,h3,by simp only;omega⟩
  ·rw[if_neg c]
   have:=dig_true (h k (by omega) c)
   refine⟨by simp only;omega,by simp only;omega,?_,?_⟩
   ·simp only;split<;>omega
   ·simp only;split<;>omega
theorem pow16 {k:Nat}(h:k≤16):(10:Int) ^ k≤10000000000000000:=by
 have:(10:Int) ^ k≤10 ^ 16:=by
  have e:((10 ^ k:Nat):Int)≤((10 ^ 16:Nat):Int):=Int.ofNat_le.2 (Nat.pow_le_pow_right (by decide) h)
  simpa using e
 simpa using this
theorem nds_small (xs:List Int)(h:∀i,i<xs.length→xs.getD i 0≠46→dig (xs.getD i 0)=true)(k:Nat)(hk:k≤xs.length)(h16:k≤16):
  0≤(nds (xs.take k)).1∧(nds (xs.take k)).1≤10000000000000000∧1≤(nds (xs.take k)).2.1∧(nds (xs.take k)).2.1≤10000000000000000:=by
 obtain⟨h1,h2,h3,h4⟩:=nds_bound xs h k hk
 have:=pow16 h16
 exact⟨h1,by omega,h3,by omega⟩
theorem cnt_both (xs:List Int)(h:∀i,i<xs.length→xs.getD i 0≠46→dig (xs.getD i 0)=true):∀k,k≤xs.length→
  (xs.take k).countP dig+(xs.take k).countP (· ==46)=k
 |0,_=>by simp
 |k+1,hk=>by
  have IH:=cnt_both xs h k (by omega)
  rw[cnt_snoc _ xs k (by omega),cnt_snoc _ xs k (by omega)]
  by_cases c:xs.getD k 0=46
  ·rw[c,dig_46];simp;omega
  ·rw[h k (by omega) c]
   have:(xs.getD k 0==46)=false:=beq_eq_false_iff_ne.2 c
   rw[this];simp;omega
theorem GoodAt.points {xs:List Int}{p:Int}(h:GoodAt xs p):∀k,k≤xs.length→(xs.take k).countP (· ==46)=if 0≤p∧p<k then 1 else 0
 |0,_=>by rw[if_neg (by omega)];simp
 |k+1,hk=>by
  rw[cnt_snoc _ xs k (by omega),h.points k (by omega)]
  by_cases c:xs.getD k 0=46
  ·have:=(h.point k (by omega)).1 c
   rw[c,if_neg (show ¬(0≤p∧p<(k:Int)) by omega),if_pos (show 0≤p∧p<((k+1:Nat):Int) by omega)];simp
  ·have:¬(k:Int)=p:=fun e=>c ((h.point k (by omega)).2 e)
   have e:(xs.getD k 0==46)=false:=beq_eq_false_iff_ne.2 c
   rw[e]
   by_cases q:0≤p∧p<k
   ·rw[if_pos q,if_pos (show 0≤p∧p<((k+1:Nat):Int) by omega)];simp
   ·rw[if_neg q,if_neg (show ¬(0≤p∧p<((k+1:Nat):Int)) by omega)];simp
theorem GoodAt.short {xs:List Int}{p:Int}(h:GoodAt xs p)(hd:xs.countP dig≤15):xs.length≤16:=by
 have h1:=cnt_both xs h.digit xs.length (Nat.le_refl _)
 have h2:=h.points xs.length (Nat.le_refl _)
 rw[List.take_of_length_le (Nat.le_refl _)] at h1 h2
 rw[h2] at h1
 split at h1<;>omega
theorem GoodAt.behind {xs:List Int}{p:Int}(h:GoodAt xs p):∀k,k≤xs.length→(nds (xs.take k)).2.2=decide (0≤p∧p<k)
 |0,_=>by rw[decide_eq_false (by omega)];rfl
 |k+1,hk=>by
  have IH:=h.behind k (by omega)
  rw[nds_snoc xs k (by omega)]
  unfold nst
  by_cases c:xs.getD k 0=46
  ·have:=(h.point k (by omega)).1 c
   rw[if_pos c]
   exact(decide_eq_true (by omega)).symm
  ·have:¬(k:Int)=p:=fun e=>c ((h.point k (by omega)).2 e)
   rw[if_neg c]
   simp only
   rw[IH]
   exact decide_eq_decide.2 (by omega)
def RN (xs:List Int)(f:Nat)(c:Int):Prop:=
 (¬Good xs∧f=0∧c=2)∨(Good xs∧15<xs.countP dig∧f=0∧c=5)∨
 (Good xs∧xs.countP dig≤15∧f<18446744073709551616∧fb f=fb (cop .quo (floatOfInt .f64 (nds xs).1) (floatOfInt .f64 (nds xs).2.1))∧c=0)
theorem RN.same {xs:List Int}{f g:Nat}{c d:Int}(h:RN xs f c)(k:RN xs g d):fb f=fb g∧c=d∧f<18446744073709551616∧g<18446744073709551616:=by
 rcases h with⟨h1,rfl,rfl⟩|⟨h1,h2,rfl,rfl⟩|⟨h1,h2,h3,h4,rfl⟩<;>rcases k with⟨k1,rfl,rfl⟩|⟨k1,k2,rfl,rfl⟩|⟨k1,k2,k3,k4,rfl⟩
 all_goals first
  |exact absurd k1 h1
  |exact absurd h1 k1
  |(exfalso;omega)
  |exact⟨rfl,rfl,by decide,by decide⟩
  |exact⟨h4.trans k4.symm,rfl,h3,k3⟩
structure Mid (xs:List Int)(k:Nat)(p:Int)(dg:Int):Prop where
 count:dg=((xs.take k).countP dig:Nat)
 point:∀i,i<k→(xs.getD i 0=46↔(i:Int)=p)
 digit:∀i,i<k→xs.getD i 0≠46→dig (xs.getD i 0)=true
 place:p=-1∨(0≤p∧p<k)
theorem mid_start (xs:List Int):Mid xs 0 (-1) 0:=⟨rfl,fun i hi=>by omega,fun i hi=>by omega,.inl rfl⟩
theorem Mid.digitStep {xs:List Int}{k:Nat}{p dg:Int}(h:Mid xs k p dg)(hk:k<xs.length)(hd:dig (xs.getD k 0)=true):Mid xs (k+1) p (dg+1):=by
 have hn:xs.getD k 0≠46:=fun e=>by rw[e] at hd;cases hd
 refine⟨?_,?_,?_,?_⟩
 ·rw[cnt_snoc _ xs k hk,hd,h.count];simp
 ·intro i hi
  by_cases e:i=k
  ·subst e
   refine⟨fun c=>absurd c hn,fun c=>?_⟩
   rcases h.place with q|q<;>omega
  ·exact h.point i (by omega)
 ·intro i hi c
  by_cases e:i=k
  ·subst e;exact hd
  ·exact h.digit i (by omega) c
 ·rcases h.place with q|q
  ·exact .inl q
  ·exact .inr (by omega)
theorem Mid.pointStep {xs:List Int}{k:Nat}{p dg:Int}(h:Mid xs k p dg)(hk:k<xs.length)(hd:xs.getD k 0=46)(hp:p<0):Mid xs (k+1) k dg:=by
 refine⟨?_,?_,?_,?_⟩
 ·rw[cnt_snoc _ xs k hk,hd,dig_46,h.count];simp
 ·intro i hi
  by_cases e:i=k
  ·subst e
   exact⟨fun _=>rfl,fun _=>hd⟩
  ·refine⟨fun c=>?_,fun c=>by omega⟩
   have:=(h.point i (by omega)).1 c
   rcases h.place with q|q<;>omega
 ·intro i hi c
  by_cases e:i=k
  ·subst e;exact absurd hd c
  ·exact h.digit i (by omega) c
 ·exact .inr (by omega)
theorem Mid.bad {xs:List Int}{k:Nat}{p dg:Int}(h:Mid xs k p dg)(hk:k<xs.length)(hd:dig (xs.getD k 0)=false)(hb:xs.getD k 0≠46∨0≤p):¬Good xs:=by
 rintro⟨q,g⟩
 by_cases c:xs.getD k 0=46
 ·rcases hb with hb|hb
  ·exact hb c
  ·have e1:=(g.point k hk).1 c
   rcases h.place with h0|h0
   ·omega
   ·obtain⟨m,rfl⟩:=Int.eq_ofNat_of_zero_le h0.1
    have h1:=(h.point m (by omega)).2 rfl
    have:=(g.point m (by omega)).1 h1
    omega
 ·have:=g.digit k hk c
  rw[hd] at this;cases this
theorem Mid.good {xs:List Int}{p dg:Int}(h:Mid xs xs.length p dg)(h0:0<xs.length)(h1:p≠0)(h2:p≠(xs.length:Int)-1):GoodAt xs p:=
 ⟨h0,h.point,h.digit,by rcases h.place with q|q<;>omega⟩
theorem Mid.notGood {xs:List Int}{p dg:Int}(h:Mid xs xs.length p dg)(hb:xs.length=0∨p=0∨p=(xs.length:Int)-1)(h0:0<xs.length→0≤p):¬Good xs:=by
 rintro⟨q,g⟩
 have hp:=g.pos
 have:=h0 hp
 obtain⟨m,rfl⟩:=Int.eq_ofNat_of_zero_le this
 have hm:m<xs.length:=by rcases h.place with q|q<;>omega
 have h1:=(h.point m hm).2 rfl
 have:=(g.point m hm).1 h1
 rcases g.place with q|q<;>omega
end Go.Proofs.YtgamjhpebmmjcaaGreatDoor
namespace Go.Proofs.YtgamjhpebmmjcaaGreatDoor
set_option maxRecDepth 100000
set_option maxHeartbeats 40000000
open Go.RowKit Flt
def bt (t:List UInt8)(k:Nat):Int:=((t.getD k 0).toNat:Int)
def letB (x:Int):Bool:=decide (97≤x)&&decide (x≤122)||x==95
def wrdB (x:Int):Bool:=letB x||dig x
def blkB (x:Int):Bool:=x==32||x==9||x==13||x==10
def nnlB (x:Int):Bool:=!(x==10)
def runE (p:Int→Bool)(t:List UInt8)(j:Nat):Nat:=if j<t.length∧p (bt t j)=true then runE p t (j+1) else j
termination_by t.length-j
decreasing_by omega
theorem runE_stop {p:Int→Bool}{t:List UInt8}{j:Nat}(h:¬(j<t.length∧p (bt t j)=true)):runE p t j=j:=by rw[runE,if_neg h]
theorem runE_go {p:Int→Bool}{t:List UInt8}{j:Nat}(h1:j<t.length)(h2:p (bt t j)=true):runE p t j=runE p t (j+1):=by rw[runE,if_pos ⟨h1,h2⟩]
theorem runE_ge (p:Int→Bool)(t:List UInt8)(j:Nat):j≤runE p t j:=by
 rw[runE]
 split
 ·have:=runE_ge p t (j+1);omega
 ·omega
termination_by t.length-j
decreasing_by omega
theorem runE_le (p:Int→Bool)(t:List UInt8)(j:Nat)(h:j≤t.length):runE p t j≤t.length:=by
 rw[runE]
 split
 ·exact runE_le p t (j+1) (by omega)
 ·exact h
termination_by t.length-j
decreasing_by omega
theorem runE_gt {p:Int→Bool}{t:List UInt8}{j:Nat}(h1:j<t.length)(h2:p (bt t j)=true):j<runE p t j:=by
 rw[runE_go h1 h2]
 have:=runE_ge p t (j+1)
 omega
theorem runE_all {p:Int→Bool}{t:List UInt8}(j:Nat):∀k,j≤k→k<runE p t j→p (bt t k)=true:=by
 intro k h1 h2
 rw[runE] at h2
 split at h2
 ·rename_i c
  by_cases e:k=j
  ·subst e;exact c.2
  ·exact runE_all (j+1) k (by omega) h2
 ·omega
termination_by t.length-j
decreasing_by omega
def skM (t:List UInt8)(i:Nat):Nat:=
 if h:i<t.length then
  if blkB (bt t i)=true then skM t (i+1)
  else if _h2:bt t i=35 then skM t (runE nnlB t i) else i
 else i
termination_by t.length-i
decreasing_by
 ·omega
 ·have:=runE_gt (p:=nnlB) h (by rw[_h2];decide);omega
theorem skM_end {t:List UInt8}{i:Nat}(h:¬i<t.length):skM t i=i:=by rw[skM,dif_neg h]
theorem skM_blank {t:List UInt8}{i:Nat}(h:i<t.length)(h1:blkB (bt t i)=true):skM t i=skM t (i+1):=by rw[skM,dif_pos h,if_pos h1]
theorem skM_hash {t:List UInt8}{i:Nat}(h:i<t.length)(h1:bt t i=35):skM t i=skM t (runE nnlB t i):=by
 rw[skM,dif_pos h,if_neg (by rw[h1];decide),dif_pos h1]
theorem skM_stop {t:List UInt8}{i:Nat}(h:i<t.length)(h1:blkB (bt t i)=false)(h2:bt t i≠35):skM t i=i:=by
 rw[skM,dif_pos h,if_neg (by rw[h1];simp),dif_neg h2]
theorem skM_ge (t:List UInt8)(i:Nat):i≤skM t i:=by
 rw[skM]
 split
 ·rename_i h
  split
  ·have:=skM_ge t (i+1);omega
  ·split
   ·rename_i h2
    have h3:=runE_gt (p:=nnlB) h (by rw[h2];decide)
    have:=skM_ge t (runE nnlB t i);omega
   ·omega
 ·omega
termination_by t.length-i
decreasing_by
 ·omega
 ·omega
structure Tok where
 sym:List UInt8
 pos:Nat
 text:List UInt8
def Tok.zero:Tok:=⟨[],0,[]⟩
def cutT (t:List UInt8)(i j:Nat):List UInt8:=(t.drop i).take (j-i)
theorem cutT_len {t:List UInt8}{i j:Nat}(h:j≤t.length):(cutT t i j).length=j-i:=by
 unfold cutT
 rw[List.length_take,List.length_drop]
 omega
def sName:List UInt8:=[110,97,109,101]
def sInt:List UInt8:=[105,110,116]
def sDec:List UInt8:=[100,101,99]
def keysL:List (List UInt8):=[[105,110],[108,101,116],[111,117,116],[100,101,102],[114,101,112,101,97,116],[101,120,112],[115,117,109],[109,97,120],[100,111,116],[115,101,108],[102,105,108,108],[112,105,99,107],[112,117,116],[103,114,97,100],[106,118,112]]
def onesL:List UInt8:=[43,45,42,47,40,41,44,59,58,61]
def wordSym (s:List UInt8):List UInt8:=if s∈keysL then s else sName
def markSym (x:UInt8):List UInt8:=if x∈onesL then[x] else[]
def numE (t:List UInt8)(i:Nat):Nat:=if runE dig t i+1<t.length∧bt t (runE dig t i)=46∧dig (bt t (runE dig t i+1))=true then runE dig t (runE dig t i+1) else runE dig t i
def numSym (t:List UInt8)(i:Nat):List UInt8:=if runE dig t i+1<t.length∧bt t (runE dig t i)=46∧dig (bt t (runE dig t i+1))=true then sDec else sInt
def nxE (t:List UInt8)(i:Nat):Nat:=if letB (bt t i)=true then runE wrdB t i else if dig (bt t i)=true then numE t i else i+1
def nxT (t:List UInt8)(i:Nat):Tok:=
 if letB (bt t i)=true then⟨wordSym (cutT t i (runE wrdB t i)),i,cutT t i (runE wrdB t i)⟩
 else if dig (bt t i)=true then⟨numSym t i,i,cutT t i (numE t i)⟩
 else⟨markSym (t.getD i 0),i,markSym (t.getD i 0)⟩
theorem numE_gt {t:List UInt8}{i:Nat}(h:i<t.length)(hd:dig (bt t i)=true):i<numE t i:=by
 have h1:=runE_gt (p:=dig) h hd
 unfold numE
 split
 ·have:=runE_ge dig t (runE dig t i+1);omega
 ·exact h1
theorem numE_le {t:List UInt8}{i:Nat}(h:i<t.length):numE t i≤t.length:=by
 have h1:=runE_le dig t i (by omega)
 unfold numE
 split
 ·exact runE_le _ _ _ (by omega)
 ·exact h1
theorem nxE_gt {t:List UInt8}{i:Nat}(h:i<t.length):i<nxE t i:=by
 unfold nxE
 split
 ·rename_i c
  exact runE_gt h (by unfold wrdB;rw[c];rfl)
 ·split
  ·rename_i c
   exact numE_gt h c
  ·omega
def toksM (t:List UInt8)(i:Nat):List Tok:=
 if _h:i<t.length then
  if (nxT t i).sym=[] then[nxT t i] else nxT t i::toksM t (skM t (nxE t i))
 else[]
termination_by t.length-i
decreasing_by
 have:=nxE_gt _h
 have:=skM_ge t (nxE t i)
 omega
theorem toksM_end {t:List UInt8}{i:Nat}(h:¬i<t.length):toksM t i=[]:=by rw[toksM,dif_neg h]
theorem toksM_bad {t:List UInt8}{i:Nat}(h:i<t.length)(h1:(nxT t i).sym=[]):toksM t i=[nxT t i]:=by rw[toksM,dif_pos h,if_pos h1]
theorem toksM_go {t:List UInt8}{i:Nat}(h:i<t.length)(h1:(nxT t i).sym≠[]):toksM t i=nxT t i::toksM t (skM t (nxE t i)):=by rw[toksM,dif_pos h,if_neg h1]
theorem toksM_len (t:List UInt8)(i:Nat):(toksM t i).length≤t.length-i:=by
 rw[toksM]
 split
 ·rename_i h
  split
  ·simp;omega
  ·have h1:=nxE_gt h
   have h2:=skM_ge t (nxE t i)
   have h3:=toksM_len t (skM t (nxE t i))
   rw[List.length_cons]
   omega
 ·simp
termination_by t.length-i
decreasing_by omega
def allT (t:List UInt8):List Tok:=toksM t (skM t 0)
theorem allT_len (t:List UInt8):(allT t).length≤t.length:=by
 have:=toksM_len t (skM t 0)
 unfold allT
 omega
end Go.Proofs.YtgamjhpebmmjcaaGreatDoor
namespace Go.Proofs.YtgamjhpebmmjcaaGreatDoor
set_option maxRecDepth 100000
set_option maxHeartbeats 40000000
open Go.RowKit Flt
theorem l3digit (c:Int)(w:World):Calls Tryz.prog 12 #[.int .u8 c] w fun e w'=>e=.returned (.bool (dig c))∧w'=w:=by
 by_cases h1:48≤c
 ·have e:dig c=decide (c≤57):=by unfold dig;rw[decide_eq_true h1];rfl
  rw[e]
  go_enter Tryz.func12,Tryz.ntmps12
  go_wp2
  go_ret
  exact⟨rfl,rfl⟩
 ·have e:dig c=false:=by unfold dig;rw[decide_eq_false h1];rfl
  have t:decide (48≤c)=false:=decide_eq_false h1
  rw[e]
  go_enter Tryz.func12,Tryz.ntmps12
  go_wp2
  go_ret
  exact⟨rfl,rfl⟩
theorem specRN_zero (w:World)(a:Option Addr)(cap:Nat):
  Calls Tryz.prog 5 #[.slice a 0 cap] w fun e w'=>e=.returned (.tuple #[.float .f64 0,.int .i64 2])∧Drawn w w':=by
 go_enter Tryz.func5,Tryz.ntmps5
 go_wp2_with fail
 refine wp_loop_rounds 1 ?_
 rw[rounds_succ]
 go_wp2
 go_ret2
 exact⟨rfl,Drawn.refl _⟩
theorem nds_point {xs:List Int}{k:Nat}(hk:k<xs.length)(h:xs.getD k 0=46):(nds (xs.take (k+1))).1=(nds (xs.take k)).1∧(nds (xs.take (k+1))).2.1=(nds (xs.take k)).2.1∧(nds (xs.take (k+1))).2.2=true:=by
 rw[nds_snoc xs k hk];unfold nst;rw[if_pos h];exact⟨rfl,rfl,rfl⟩
theorem nds_digit {xs:List Int}{k:Nat}(hk:k<xs.length)(h:xs.getD k 0≠46):(nds (xs.take (k+1))).1=(nds (xs.take k)).1*10+(xs.getD k 0-48)∧(nds (xs.take (k+1))).2.1=(if (nds (xs.take k)).2.2 then (nds (xs.take k)).2.1*10 else (nds (xs.take k)).2.1)∧(nds (xs.take (k+1))).2.2=(nds (xs.take k)).2.2:=by
 rw[nds_snoc xs k hk];unfold nst;rw[if_neg h];exact⟨rfl,rfl,rfl⟩
theorem specRN_pos (w:World)(g off n cap:Nat)(xs:List Int)(hx:xs.length=n)(h0:0<n)(hn:n≤1048576)(hlt:∀x∈xs,0≤x∧x<256)
  (hc:∀k,k<n→w.cell? ⟨g,off+k,none⟩=some (.int .u8 (xs.getD k 0))):
  Calls Tryz.prog 5 #[.slice (some ⟨g,off,none⟩) n cap] w fun e w'=>∃f c,e=.returned (.tuple #[.float .f64 f,.int .i64 c])∧RN xs f c∧Drawn w w':=by
 have HC:Hid (∀k,k<n→w.cell? ⟨g,off+k,none⟩=some (.int .u8 (xs.getD k 0))):=hc
 have HX:Hid (xs.length=n):=hx
 have HL:Hid (∀x∈xs,0≤x∧x<256):=hlt
 clear hc hx hlt
 go_enter Tryz.func5,Tryz.ntmps5
 go_wp2_with fail
 go_loopw [4,5,6] (fun pv dv iv W=>∃(k:Nat) (p dg:Int),k≤n∧pv=.int .i64 p∧dv=.int .i64 dg∧iv=.int .i64 k∧Hid (Mid xs k p dg)∧(0≤dg∧dg≤k∧-1≤p∧p<n)∧Drawn w W) (fun _ _ iv _=>n-(intOf iv).toNat)
 case atStart=>exact⟨0,-1,0,Nat.zero_le _,rfl,rfl,rfl,mid_start xs,⟨by omega,by omega,by omega,by omega⟩,Drawn.refl _⟩
 case round=>
  obtain⟨k,p,dg,hk,rfl,rfl,rfl,hM,⟨hb1,hb2,hb3,hb4⟩,HW⟩:=hrel
  by_cases hlt:k<n
  ·have c1:wr.cell? ⟨g,off+k,none⟩=some (.int .u8 (xs.getD k 0)):=by rw[HW.cell];exact HC.out k hlt
   have HD:Hid _:=l3digit (xs.getD k 0) wr
   have hkx:k<xs.length:=by rw[HX.out];exact hlt
   cases t:dig (xs.getD k 0)
   ·by_cases h46:xs.getD k 0=46
    ·by_cases hp:p<0
     ·have R:Hid _:=hM.out.pointStep hkx h46 hp
      rw[h46] at c1 HD
      rw[dig_46] at HD
      clear t h46 hM
      go_wp2_with fail
      refine Calls.mono HD.out ?_
      rintro e w' ⟨rfl,rfl⟩
      go_wp2
      go_roundw
      case rel=>exact⟨k+1,k,dg,by omega,rfl,rfl,by go_num,R,⟨by omega,by omega,by omega,by omega⟩,HW⟩
      case measure=>simp[intOf];omega
     ·have R:Hid (RN xs 0 2):=.inl ⟨hM.out.bad hkx t (.inr (by omega)),rfl,rfl⟩
      have tp:¬(p<0):=hp
      rw[h46] at c1 HD
      rw[dig_46] at HD
      clear t h46 hM
      go_wp2_with fail
      refine Calls.mono HD.out ?_
      rintro e w' ⟨rfl,rfl⟩
      go_wp2
      go_ret2
      exact⟨0,2,rfl,R.out,HW⟩
    ·have R:Hid (RN xs 0 2):=.inl ⟨hM.out.bad hkx t (.inl h46),rfl,rfl⟩
     have t2:(xs.getD k 0==46)=false:=beq_eq_false_iff_ne.2 h46
     rw[t] at HD
     generalize xs.getD k 0=x at c1 HD t2
     clear t h46 hM
     go_wp2_with fail
     refine Calls.mono HD.out ?_
     rintro e w' ⟨rfl,rfl⟩
     go_wp2
     go_ret2
     exact⟨0,2,rfl,R.out,HW⟩
   ·have R:Hid _:=hM.out.digitStep hkx t
    rw[t] at HD
    generalize xs.getD k 0=x at c1 HD
    clear t hM
    go_wp2_with fail
    refine Calls.mono HD.out ?_
    rintro e w' ⟨rfl,rfl⟩
    go_wp2
    go_roundw
    case rel=>exact⟨k+1,p,dg+1,by omega,rfl,by go_num,by go_num,R,⟨by omega,by omega,by omega,by omega⟩,HW⟩
    case measure=>simp[intOf];omega
  ·obtain rfl:k=n:=by omega
   have hM2:Mid xs xs.length p dg:=by rw[HX.out];exact hM.out
   by_cases hp0:p=0
   ·have R:Hid (RN xs 0 2):=.inl ⟨hM2.notGood (.inr (.inl hp0)) (fun _=>by omega),rfl,rfl⟩
    subst hp0
    clear hM hM2
    go_wp2
    go_ret2
    exact⟨0,2,rfl,R.out,HW⟩
   ·by_cases hp1:p=(k:Int)-1
    ·have R:Hid (RN xs 0 2):=.inl ⟨hM2.notGood (.inr (.inr (by rw[HX.out];exact hp1))) (fun _=>by omega),rfl,rfl⟩
     have t1:(p==0)=false:=beq_eq_false_iff_ne.2 hp0
     have t2:(p==(k:Int)-1)=true:=by rw[hp1];simp
     clear hM hM2
     go_wp2
     go_ret2
     exact⟨0,2,rfl,R.out,HW⟩
    ·have hG:=hM2.good (by rw[HX.out];exact h0) hp0 (by rw[HX.out];exact hp1)
     have hdg:dg=(xs.countP dig:Nat):=by
      have:=hM2.count
      rw[List.take_of_length_le (Nat.le_refl _)] at this
      exact this
     have t1:(p==0)=false:=beq_eq_false_iff_ne.2 hp0
     have t2:(p==(k:Int)-1)=false:=beq_eq_false_iff_ne.2 hp1
     have t0:((k:Int)==0)=false:=beq_eq_false_iff_ne.2 (by omega)
     by_cases h15:15<dg
     ·have R:Hid (RN xs 0 5):=.inr (.inl ⟨⟨p,hG⟩,by omega,rfl,rfl⟩)
      clear hM hM2 hG hdg
      go_wp2
      go_ret2
      exact⟨0,5,rfl,R.out,HW⟩
     ·have hshort:=hG.short (by omega)
      have HG:Hid _:=hG
      have HDG:Hid (xs.countP dig≤15):=by have:xs.countP dig≤15:=by omega
                                          exact this
      have hk16:k≤16:=by rw[HX.out] at hshort;exact hshort
      clear hM hM2 hG hdg hshort
      go_wp2_with fail
      go_loopw [7,8,9] (fun nv dv iv W=>∃(j:Nat) (N D:Int),j≤k∧nv=.int .i64 N∧dv=.int .i64 D∧iv=.int .i64 j∧Hid (N=(nds (xs.take j)).1∧D=(nds (xs.take j)).2.1)∧Drawn w W) (fun _ _ iv _=>k-(intOf iv).toNat)
      case atStart=>exact⟨0,0,1,Nat.zero_le _,rfl,rfl,rfl,⟨rfl,rfl⟩,HW⟩
      case round=>
       obtain⟨j,N,D,hj,rfl,rfl,rfl,hND,HW2⟩:=hrel
       obtain⟨b1,b2,b3,b4⟩:=nds_small xs HG.out.digit j (by rw[HX.out];exact hj) (by omega)
       rw[←hND.out.1] at b1 b2
       rw[←hND.out.2] at b3 b4
       by_cases hjl:j<k
       ·have c1:wr.cell? ⟨g,off+j,none⟩=some (.int .u8 (xs.getD j 0)):=by rw[HW2.cell];exact HC.out j hjl
        have hjx:j<xs.length:=by rw[HX.out];exact hjl
        by_cases hjp:(j:Int)=p
        ·have h46:=(HG.out.point j hjx).2 hjp
         have R:Hid (N=(nds (xs.take (j+1))).1∧D=(nds (xs.take (j+1))).2.1):=by
          obtain⟨q1,q2,_⟩:=nds_point hjx h46
          exact⟨hND.out.1.trans q1.symm,hND.out.2.trans q2.symm⟩
         have tj:((j:Int) !=p)=false:=by simp[hjp]
         clear hND c1
         go_wp2
         go_roundw
         case rel=>exact⟨j+1,N,D,by omega,rfl,rfl,by go_num,R,HW2⟩
         case measure=>simp[intOf];omega
        ·have h46:xs.getD j 0≠46:=fun c=>hjp ((HG.out.point j hjx).1 c)
         have hd:=dig_true (HG.out.digit j hjx h46)
         obtain⟨q1,q2,_⟩:=nds_digit hjx h46
         rw[HG.out.behind j (by omega)] at q2
         have tj:((j:Int) !=p)=true:=by simp[hjp]
         by_cases hbh:0≤p∧p<(j:Int)
         ·rw[decide_eq_true hbh] at q2
          have R:Hid (N*10+(xs.getD j 0-48)=(nds (xs.take (j+1))).1∧D*10=(nds (xs.take (j+1))).2.1):=by
           refine⟨?_,?_⟩
           ·rw[q1,hND.out.1]
           ·rw[q2,hND.out.2];rfl
          clear q1 q2 h46 hND
          generalize xs.getD j 0=x at c1 hd R
          have tb1:=hbh.1
          have tb2:=hbh.2
          go_wp2
          go_roundw
          case rel=>exact⟨j+1,_,_,by omega,by go_num,by go_num,by go_num,R,HW2⟩
          case measure=>simp[intOf];omega
         ·rw[decide_eq_false hbh] at q2
          have R:Hid (N*10+(xs.getD j 0-48)=(nds (xs.take (j+1))).1∧D=(nds (xs.take (j+1))).2.1):=by
           refine⟨?_,?_⟩
           ·rw[q1,hND.out.1]
           ·rw[q2,hND.out.2];rfl
          clear q1 q2 h46 hND
          generalize xs.getD j 0=x at c1 hd R
          by_cases tb1:0≤p
          ·have tb2:¬(p<(j:Int)):=fun c=>hbh ⟨tb1,c⟩
           go_wp2
           go_roundw
           case rel=>exact⟨j+1,_,_,by omega,by go_num,rfl,by go_num,R,HW2⟩
           case measure=>simp[intOf];omega
          ·go_wp2
           go_roundw
           case rel=>exact⟨j+1,_,_,by omega,by go_num,rfl,by go_num,R,HW2⟩
           case measure=>simp[intOf];omega
       ·obtain rfl:j=k:=by omega
        have e:xs.take j=xs:=List.take_of_length_le (by rw[HX.out];exact Nat.le_refl _)
        rw[e] at hND
        have R:Hid (∀W:World,RN xs (fop .quo (floatOfInt .f64 N) (floatOfInt .f64 D) W) 0):=fun W=>.inr (.inr ⟨⟨p,HG.out⟩,HDG.out,fop_lt _ _ _ _,by rw[fb_fop,hND.out.1,hND.out.2],rfl⟩)
        have hq:=fun W=>run_fquo (P:=Tryz.prog) W 24 (floatOfInt .f64 N) (floatOfInt .f64 D)
        clear hND e
        go_wp2
        go_ret2
        exact⟨_,0,rfl,R.out _,HW2.more _⟩
theorem specRN (w:World)(a:Option Addr)(n cap:Nat)(xs:List Int)(f:YS w a n xs)(hn:n≤1048576):
  Calls Tryz.prog 5 #[.slice a n cap] w fun e w'=>∃f c,e=.returned (.tuple #[.float .f64 f,.int .i64 c])∧RN xs f c∧Drawn w w':=by
 rcases Nat.eq_zero_or_pos n with h0|h0
 ·subst h0
  have:xs=[]:=List.length_eq_zero_iff.1 f.len
  subst this
  exact(specRN_zero w a cap).mono fun _ _ h=>⟨0,2,h.1,.inl ⟨fun⟨_,g⟩=>by have:=g.pos;simp at this,rfl,rfl⟩,h.2⟩
 ·rcases f.at_ with h|⟨g,off,rfl,h3,h4⟩
  ·omega
  ·exact specRN_pos w g off n cap xs f.len h0 hn f.lt h4
end Go.Proofs.YtgamjhpebmmjcaaGreatDoor
namespace Go.Proofs.YtgamjhpebmmjcaaGreatDoor
set_option maxRecDepth 100000
set_option maxHeartbeats 40000000
open Go.RowKit Flt
attribute [local go_sem] alloc_drewN setCell_drewN run_store_float
structure TxS (w:World)(g off n:Nat)(t:List UInt8):Prop where
 len:t.length=n
 lt:g<w.heap.size
 at_:∀k,k<n→w.cell? ⟨g,off+k,none⟩=some (.int .u8 (bt t k))
theorem TxS.keep {w w':World}{g off n:Nat}{t:List UInt8}(h:TxS w g off n t)(k:Kept 0 0 w w'):TxS w' g off n t:=
 ⟨h.len,Nat.lt_of_lt_of_le h.lt k.size,fun j hj=>(k.cell (p:=⟨g,off+j,none⟩) h.lt (by omega)).trans (h.at_ j hj)⟩
end Go.Proofs.YtgamjhpebmmjcaaGreatDoor
namespace Go.Proofs.YtgamjhpebmmjcaaGreatDoor
set_option maxRecDepth 100000
set_option maxHeartbeats 40000000
open Go.RowKit Flt
theorem isDig (c:Int)(w:World):Calls Tryz.prog 13 #[.int .u8 c] w fun e w'=>e=.returned (.bool (dig c))∧w'=w:=by
 by_cases h1:48≤c
 ·have e:dig c=decide (c≤57):=by unfold dig;rw[decide_eq_true h1];rfl
  rw[e]
  go_enter Tryz.func13,Tryz.ntmps13
  go_wp2
  go_ret
  exact⟨rfl,rfl⟩
 ·have e:dig c=false:=by unfold dig;rw[decide_eq_false h1];rfl
  have t:decide (48≤c)=false:=decide_eq_false h1
  rw[e]
  go_enter Tryz.func13,Tryz.ntmps13
  go_wp2
  go_ret
  exact⟨rfl,rfl⟩
structure RunE (xs:List Int)(k e:Nat):Prop where
 le:k≤e
 len:e≤xs.length
 digit:∀i,k≤i→i<e→dig (xs.getD i 0)=true
 stop:e<xs.length→dig (xs.getD e 0)=false
def NumE (xs:List Int)(e:Nat):Prop:=∃e1,RunE xs 0 e1∧
 ((e1+1<xs.length∧xs.getD e1 0=46∧dig (xs.getD (e1+1) 0)=true∧RunE xs (e1+1) e)∨(¬(e1+1<xs.length∧xs.getD e1 0=46∧dig (xs.getD (e1+1) 0)=true)∧e=e1))
theorem NumE.good {xs:List Int}(h:NumE xs xs.length)(h0:0<xs.length)(hd:dig (xs.getD 0 0)=true):Good xs:=by
 obtain⟨e1,r,⟨c1,c2,c3,r2⟩|⟨_,rfl⟩⟩:=h
 ·have hp:0<e1:=by
   rcases Nat.eq_zero_or_pos e1 with q|q
   ·subst q
    have:=r.stop h0
    rw[hd] at this;cases this
   ·exact q
  refine⟨(e1:Int),h0,fun i hi=>?_,fun i hi hn=>?_,.inr ⟨by omega,by omega⟩⟩
  ·rcases Nat.lt_trichotomy i e1 with q|q|q
   ·refine⟨fun c=>?_,fun c=>by omega⟩
    have:=r.digit i (Nat.zero_le _) q
    rw[c] at this;cases this
   ·subst q
    exact⟨fun _=>rfl,fun _=>c2⟩
   ·refine⟨fun c=>?_,fun c=>by omega⟩
    have:=r2.digit i (by omega) hi
    rw[c] at this;cases this
  ·rcases Nat.lt_trichotomy i e1 with q|q|q
   ·exact r.digit i (Nat.zero_le _) q
   ·subst q;exact absurd c2 hn
   ·exact r2.digit i (by omega) hi
 ·refine⟨-1,h0,fun i hi=>⟨fun c=>?_,fun c=>by omega⟩,fun i hi _=>r.digit i (Nat.zero_le _) hi,.inl rfl⟩
  have:=r.digit i (Nat.zero_le _) hi
  rw[c] at this;cases this
theorem NumE.not {xs:List Int}{e:Nat}(h:NumE xs e)(hne:e≠xs.length):¬Good xs:=by
 rintro⟨p,g⟩
 obtain⟨e1,r,h2⟩:=h
 have key:e1<xs.length→(e1:Int)=p:=fun hlt=>by
  have hs:=r.stop hlt
  by_cases c:xs.getD e1 0=46
  ·exact(g.point e1 hlt).1 c
  ·have:=g.digit e1 hlt c
   rw[hs] at this;cases this
 rcases h2 with⟨c1,c2,c3,r2⟩|⟨c,rfl⟩
 ·have hp:=key (by omega)
  have hlt:e<xs.length:=by have:=r2.len;omega
  have hs:=r2.stop hlt
  have hle:=r2.le
  have hn:xs.getD e 0≠46:=fun q=>by have:=(g.point e hlt).1 q;omega
  have:=g.digit e hlt hn
  rw[hs] at this;cases this
 ·have hlt:e<xs.length:=by have:=r.len;omega
  have hp:=key hlt
  apply c
  have h46:=(g.point e hlt).2 hp
  rcases g.place with q|q
  ·omega
  ·refine⟨by omega,h46,g.digit (e+1) (by omega) fun c=>?_⟩
   have:=(g.point (e+1) (by omega)).1 c
   omega
theorem first_not {xs:List Int}(h:0<xs.length)(hd:dig (xs.getD 0 0)=false):¬Good xs:=by
 rintro⟨p,g⟩
 by_cases c:xs.getD 0 0=46
 ·have:=(g.point 0 h).1 c
  rcases g.place with q|q<;>omega
 ·have:=g.digit 0 h c
  rw[hd] at this;cases this
theorem runEndD (w:World)(g off n cap k0:Nat)(xs:List Int)(hx:xs.length=n)(hn:n≤1048576)(hk0:k0≤n)
  (hc:∀k,k<n→w.cell? ⟨g,off+k,none⟩=some (.int .u8 (xs.getD k 0))):
  Calls Tryz.prog 20 #[.slice (some ⟨g,off,none⟩) n cap,.int .i64 (k0:Int),.func (.func 13) #[] #[]] w fun e w'=>∃m:Nat,e=.returned (.int .i64 (m:Int))∧RunE xs k0 m∧w'=w:=by
 have HC:Hid (∀k,k<n→w.cell? ⟨g,off+k,none⟩=some (.int .u8 (xs.getD k 0))):=hc
 have HX:Hid (xs.length=n):=hx
 clear hc hx
 go_enter Tryz.func20,Tryz.ntmps20
 go_wp2_with fail
 go_loop [1] (fun v=>∃k:Nat,k≤n∧v=.int .i64 (k:Int)∧Hid (k0≤k∧∀i,k0≤i→i<k→dig (xs.getD i 0)=true)) (fun v=>n-(intOf v).toNat)
 case atStart=>exact⟨k0,hk0,rfl,Nat.le_refl _,fun i h1 h2=>by omega⟩
 case round=>
  obtain⟨k,hk,rfl,hA⟩:=hrel
  by_cases hlt:k<n
  ·have c:=HC.out k hlt
   have HD:Hid _:=isDig (xs.getD k 0) w
   cases t:dig (xs.getD k 0)
   ·have R:Hid (RunE xs k0 k):=⟨hA.out.1,by rw[HX.out];exact hk,hA.out.2,fun _=>t⟩
    rw[t] at HD
    generalize xs.getD k 0=x at c HD
    clear t
    go_wp2_with fail
    refine Calls.mono HD.out ?_
    rintro e w' ⟨rfl,rfl⟩
    go_wp2
    go_ret
    exact⟨k,rfl,R.out,rfl⟩
   ·have R:Hid (k0≤k+1∧∀i,k0≤i→i<k+1→dig (xs.getD i 0)=true):=⟨by have:=hA.out.1;omega,fun i h1 h2=>by
     rcases Nat.lt_or_ge i k with q|q
     ·exact hA.out.2 i h1 q
     ·obtain rfl:i=k:=by omega
      exact t⟩
    rw[t] at HD
    generalize xs.getD k 0=x at c HD
    clear t
    go_wp2_with fail
    refine Calls.mono HD.out ?_
    rintro e w' ⟨rfl,rfl⟩
    go_wp2
    go_round
    case rel=>exact⟨k+1,by omega,by go_num,R⟩
    case measure=>simp[intOf];omega
  ·obtain rfl:k=n:=by omega
   have R:Hid (RunE xs k0 k):=⟨hA.out.1,by rw[HX.out];exact Nat.le_refl _,hA.out.2,fun h=>by rw[HX.out] at h;omega⟩
   go_wp2
   go_ret
   exact⟨k,rfl,R.out,rfl⟩
theorem numberEnd0 (w:World)(g off n cap:Nat)(xs:List Int)(hx:xs.length=n)(hn:n≤1048576)
  (hc:∀k,k<n→w.cell? ⟨g,off+k,none⟩=some (.int .u8 (xs.getD k 0))):
  Calls Tryz.prog 14 #[.slice (some ⟨g,off,none⟩) n cap,.int .i64 0] w fun e w'=>∃m:Nat,e=.returned (.int .i64 (m:Int))∧NumE xs m∧m≤n∧w'=w:=by
 have HC:Hid (∀k,k<n→w.cell? ⟨g,off+k,none⟩=some (.int .u8 (xs.getD k 0))):=hc
 have HX:Hid (xs.length=n):=hx
 have HR0:Hid _:=runEndD w g off n cap 0 xs hx hn (Nat.zero_le _) hc
 have HR:Hid (∀k0,k0≤n→_):=fun k0 (h:k0≤n)=>runEndD w g off n cap k0 xs hx hn h hc
 rw[show((0:Nat):Int)=0 from rfl] at HR0
 clear hc hx
 go_enter Tryz.func14,Tryz.ntmps14
 go_wp2_with fail
 refine Calls.mono HR0.out ?_
 rintro e w' ⟨m,rfl,hr,rfl⟩
 have hml:m≤n:=by have:=hr.len;rw[HX.out] at this;exact this
 have HRR:Hid _:=hr
 clear hr HR0
 by_cases c1:m+1<n
 ·have d0:=HC.out m (by omega)
  have d1:=HC.out (m+1) c1
  have t1:(m:Int)+1<(n:Int):=by omega
  by_cases c2:xs.getD m 0=46
  ·rw[c2] at d0
   have HD:Hid _:=isDig (xs.getD (m+1) 0) w'
   cases t:dig (xs.getD (m+1) 0)
   ·have R:Hid (NumE xs m):=⟨m,HRR.out,.inr ⟨fun c=>(by rw[t] at c;cases c.2.2),rfl⟩⟩
    rw[t] at HD
    generalize xs.getD (m+1) 0=x at d1 HD
    clear t c2
    go_wp2_with fail
    refine Calls.mono HD.out ?_
    rintro e w2 ⟨rfl,rfl⟩
    go_wp2
    go_ret
    exact⟨m,rfl,R.out,hml,rfl⟩
   ·have R:Hid (∀e,RunE xs (m+1) e→NumE xs e∧e≤n):=fun e he=>⟨⟨m,HRR.out,.inl ⟨by rw[HX.out];exact c1,c2,t,he⟩⟩,by have:=he.len;rw[HX.out] at this;exact this⟩
    have HR1:Hid _:=HR.out (m+1) (by omega)
    rw[show((m+1:Nat):Int)=(m:Int)+1 by omega] at HR1
    rw[t] at HD
    generalize xs.getD (m+1) 0=x at d1 HD
    clear t c2
    go_wp2_with fail
    refine Calls.mono HD.out ?_
    rintro e w2 ⟨rfl,rfl⟩
    go_wp2_with fail
    refine Calls.mono HR1.out ?_
    rintro e w2 ⟨m2,rfl,hr2,rfl⟩
    have R2:Hid _:=R.out m2 hr2
    clear hr2
    go_wp2
    go_ret
    exact⟨m2,rfl,R2.out.1,R2.out.2,rfl⟩
  ·have t2:(xs.getD m 0==46)=false:=beq_eq_false_iff_ne.2 c2
   have R:Hid (NumE xs m):=⟨m,HRR.out,.inr ⟨fun c=>c2 c.2.1,rfl⟩⟩
   generalize xs.getD m 0=x at d0 t2
   clear c2 d1
   go_wp2
   go_ret
   exact⟨m,rfl,R.out,hml,rfl⟩
 ·have t1:¬((m:Int)+1<(n:Int)):=by omega
  have R:Hid (NumE xs m):=⟨m,HRR.out,.inr ⟨fun c=>by rw[HX.out] at c;exact c1 c.1,rfl⟩⟩
  go_wp2
  go_ret
  exact⟨m,rfl,R.out,hml,rfl⟩
theorem count1 (s:ByteArray)(c:UInt8)(w:World):
  Calls Tryz.prog 21 #[.string s,.string ⟨#[c]⟩] w fun e w'=>e=.returned (.int .i64 (Lib.countByte s.data.toList c))∧w'=w:=by
 go_enter Tryz.func21,Tryz.ntmps21
 go_wp2
 rw[run_callFunc_extern Tryz.func28 (by kernel_rfl) (by kernel_rfl) (by kernel_rfl) (e:=Extern.BytealgCount.count) (by kernel_rfl),Lib.run_countString]
 simp only[Result.andThen]
 rw[Oper.upon_value]
 go_wp2
 go_ret
 exact⟨rfl,rfl⟩
theorem u8_46 {x:Int}(h:0≤x∧x<256):(UInt8.ofNat x.toNat==46)=(x==46):=by
 obtain⟨m,rfl⟩:=Int.eq_ofNat_of_zero_le h.1
 have hm:m<256:=by omega
 rw[Bool.eq_iff_iff]
 simp only[beq_iff_eq,Int.toNat_natCast]
 constructor
 ·intro e
  have:=congrArg UInt8.toNat e
  simp[Nat.mod_eq_of_lt hm] at this
  omega
 ·intro e
  have:m=46:=by omega
  subst this;rfl
theorem countNums:∀(xs:List Int),(∀x∈xs,0≤x∧x<256)→Lib.countByte (strOfNums xs).data.toList 46=((xs.countP (· ==46):Nat):Int):=by
 intro xs h
 rw[strOfNums_data]
 unfold Lib.countByte
 congr 1
 induction xs with
 |nil=>rfl
 |cons x r ih=>
  have h1:=u8_46 (h x (by simp))
  have h2:=ih fun y hy=>h y (by simp[hy])
  rw[List.map_cons,List.count_cons,List.countP_cons,h2,h1]
theorem digitCount (xs:List Int)(w:World)(h:∀x∈xs,0≤x∧x<256)(hn:xs.length≤1048576):
  Calls Tryz.prog 15 #[.string (strOfNums xs)] w fun e w'=>e=.returned (.int .i64 ((xs.length:Int)-(xs.countP (· ==46):Nat)))∧w'=w:=by
 have HX:Hid _:=count1 (strOfNums xs) 46 w
 rw[countNums xs h] at HX
 have hs:=strOfNums_size xs
 have hc:xs.countP (· ==46)≤xs.length:=List.countP_le_length
 generalize xs.countP (· ==46)=c at HX hc ⊢
 generalize strOfNums xs=s at HX hs ⊢
 generalize xs.length=n at hs hc hn ⊢
 go_enter Tryz.func15,Tryz.ntmps15
 go_wp2_with fail
 refine Calls.mono HX.out ?_
 rintro e w' ⟨rfl,rfl⟩
 clear HX
 go_wp2
 go_ret
 exact⟨by rw[←hs];rfl,rfl⟩
end Go.Proofs.YtgamjhpebmmjcaaGreatDoor
namespace Go.Proofs.YtgamjhpebmmjcaaGreatDoor
set_option maxRecDepth 100000
set_option maxHeartbeats 40000000
open Go.RowKit Flt
structure TxA (w:World)(a:Option Addr)(n:Nat)(t:List UInt8):Prop where
 len:t.length=n
 at_:0<n→∃g off,a=some ⟨g,off,none⟩∧TxS w g off n t
theorem TxA.keep {w w':World}{a:Option Addr}{n:Nat}{t:List UInt8}(h:TxA w a n t)(k:Kept 0 0 w w'):TxA w' a n t:=
 ⟨h.len,fun hn=>by obtain⟨g,off,e,h1⟩:=h.at_ hn;exact⟨g,off,e,h1.keep k⟩⟩
end Go.Proofs.YtgamjhpebmmjcaaGreatDoor
namespace Go.Proofs.YtgamjhpebmmjcaaGreatDoor
set_option maxRecDepth 100000
set_option maxHeartbeats 40000000
open Go.RowKit Flt
theorem cut_le (t:List UInt8)(i j:Nat):(cutT t i j).length≤t.length:=by
 unfold cutT
 rw[List.length_take,List.length_drop]
 omega
theorem nx_len (t:List UInt8)(i:Nat)(h:i<t.length):(nxT t i).text.length≤t.length:=by
 unfold nxT
 split
 ·exact cut_le t _ _
 ·split
  ·exact cut_le t _ _
  ·show(markSym _).length≤_
   unfold markSym
   split<;>simp<;>omega
theorem toks_len (t:List UInt8)(i:Nat):∀tk∈toksM t i,tk.text.length≤t.length:=by
 intro tk hm
 rw[toksM] at hm
 split at hm
 ·rename_i h
  split at hm
  ·simp only[List.mem_singleton] at hm
   subst hm
   exact nx_len t i h
  ·rcases List.mem_cons.1 hm with c|c
   ·subst c;exact nx_len t i h
   ·exact toks_len t (skM t (nxE t i)) tk c
 ·cases hm
termination_by t.length-i
decreasing_by
 have:=nxE_gt ‹i<t.length›
 have:=skM_ge t (nxE t i)
 omega
end Go.Proofs.YtgamjhpebmmjcaaGreatDoor
