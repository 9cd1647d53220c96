import Derived.Test.YtgamjhpebmmjcaaGreatDoorP12
import Derived.Test.YtgamjhpebmmjcaaGreatDoorP21
import Derived.Test.YtgamjhpebmmjcaaGreatDoorP06
import Derived.Deep.RegionWith
import Derived.Deep.QuietTactic
import Derived.BigQuiet
import Derived.Test.YtgamjhpebmmjcaaGreatDoorP08
import Derived.Deep.AppendLies
import Derived.Deep.LoopGhost
namespace Go.Proofs.YtgamjhpebmmjcaaGreatDoor
set_option maxRecDepth 100000
set_option maxHeartbeats 40000000
open Go.RowKit Flt
def pSTMTS:List UInt8:=[83,84,77,84,83]
def pPARAMS:List UInt8:=[80,65,82,65,77,83]
def pMOREPARAMS:List UInt8:=[77,79,82,69,80,65,82,65,77,83]
def pEXPR:List UInt8:=[69,88,80,82]
def pMORETERMS:List UInt8:=[77,79,82,69,84,69,82,77,83]
def pTERM:List UInt8:=[84,69,82,77]
def pMOREUNARY:List UInt8:=[77,79,82,69,85,78,65,82,89]
def pCALL:List UInt8:=[67,65,76,76]
def pARGS:List UInt8:=[65,82,71,83]
def pMOREARGS:List UInt8:=[77,79,82,69,65,82,71,83]
def pUNARY:List UInt8:=[85,78,65,82,89]
def unaryM (s:List UInt8):List (List UInt8):=
 if s=[45] then[[45],pUNARY] else
 if s=[110,97,109,101] then[[110,97,109,101],pCALL] else
 if s=[40] then[[40],pEXPR,[41]] else
 if s=[101,120,112]∨s=[115,117,109] then[s,[40],pEXPR,[41]] else
 if s=[109,97,120]∨s=[100,111,116] then[s,[40],pEXPR,[44],pEXPR,[41]] else
 if s=[115,101,108] then[s,[40],pEXPR,[44],pEXPR,[44],pEXPR,[41]] else
 if s=[102,105,108,108]∨s=[112,105,99,107] then[s,[40],pEXPR,[44],[105,110,116],[41]] else
 if s=[112,117,116] then[s,[40],pEXPR,[44],[105,110,116],[44],[105,110,116],[41]] else
 if s=[103,114,97,100] then[s,[40],pEXPR,[44],[110,97,109,101],[41]] else
 if s=[106,118,112] then[s,[40],pEXPR,[44],[110,97,109,101],[44],pEXPR,[41]] else
 if s=[100,101,99] then[[100,101,99]] else
 [[105,110,116]]
def ruleM (p s:List UInt8):List (List UInt8):=
 if p=pSTMTS then (if s=[105,110] then[[105,110],[110,97,109,101],[58],[105,110,116],[59],pSTMTS] else if s=[108,101,116] then[[108,101,116],[110,97,109,101],[61],pEXPR,[59],pSTMTS] else if s=[114,101,112,101,97,116] then[[114,101,112,101,97,116],[105,110,116],[110,97,109,101],[61],pEXPR,[59],pSTMTS] else if s=[100,101,102] then[[100,101,102],[110,97,109,101],[40],pPARAMS,[41],[61],pEXPR,[59],pSTMTS] else if s=[111,117,116] then[[111,117,116],pEXPR,[59],pSTMTS] else[]) else
 if p=pPARAMS then (if s=[110,97,109,101] then[[110,97,109,101],pMOREPARAMS] else[]) else
 if p=pMOREPARAMS then (if s=[44] then[[44],[110,97,109,101],pMOREPARAMS] else[]) else
 if p=pEXPR then ([pTERM,pMORETERMS]) else
 if p=pMORETERMS then (if s=[43]∨s=[45] then[s,pTERM,pMORETERMS] else[]) else
 if p=pTERM then ([pUNARY,pMOREUNARY]) else
 if p=pMOREUNARY then (if s=[42]∨s=[47] then[s,pUNARY,pMOREUNARY] else[]) else
 if p=pCALL then (if s=[40] then[[40],pARGS,[41]] else[]) else
 if p=pARGS then (if s=[41] then[] else[pEXPR,pMOREARGS]) else
 if p=pMOREARGS then (if s=[44] then[[44],pEXPR,pMOREARGS] else[]) else
 unaryM s
def isPartB (s:List UInt8):Bool:=decide (1<s.length)&&(decide (65≤bt s 0)&&decide (bt s 0≤90))
def wt (s:List UInt8):Nat:=if s=pARGS then 7 else if s=pEXPR then 5 else if s=pTERM then 3 else 1
def wts:List (List UInt8)→Nat
 |[]=>0
 |s::r=>wt s+wts r
def topP:List (List UInt8)→Bool
 |[]=>false
 |p::_=>isPartB p
def mu (st:List (List UInt8)):Nat:=if topP st=true then wts st+1 else 0
theorem wt_pos (s:List UInt8):1≤wt s:=by
 unfold wt
 split
 ·omega
 ·split
  ·omega
  ·split<;>omega
theorem unary_top (s:List UInt8)(r:List (List UInt8)):topP (unaryM s++r)=false:=by
 unfold unaryM
 by_cases g0:s=[45]
 ·rw[if_pos g0];subst g0;rfl
 rw[if_neg g0]
 by_cases g1:s=[110,97,109,101]
 ·rw[if_pos g1];subst g1;rfl
 rw[if_neg g1]
 by_cases g2:s=[40]
 ·rw[if_pos g2];subst g2;rfl
 rw[if_neg g2]
 by_cases g3:s=[101,120,112]∨s=[115,117,109]
 ·rw[if_pos g3];rcases g3 with e|e<;>(subst e;rfl)
 rw[if_neg g3]
 by_cases g4:s=[109,97,120]∨s=[100,111,116]
 ·rw[if_pos g4];rcases g4 with e|e<;>(subst e;rfl)
 rw[if_neg g4]
 by_cases g5:s=[115,101,108]
 ·rw[if_pos g5];subst g5;rfl
 rw[if_neg g5]
 by_cases g6:s=[102,105,108,108]∨s=[112,105,99,107]
 ·rw[if_pos g6];rcases g6 with e|e<;>(subst e;rfl)
 rw[if_neg g6]
 by_cases g7:s=[112,117,116]
 ·rw[if_pos g7];subst g7;rfl
 rw[if_neg g7]
 by_cases g8:s=[103,114,97,100]
 ·rw[if_pos g8];subst g8;rfl
 rw[if_neg g8]
 by_cases g9:s=[106,118,112]
 ·rw[if_pos g9];subst g9;rfl
 rw[if_neg g9]
 by_cases g10:s=[100,101,99]
 ·rw[if_pos g10];subst g10;rfl
 rw[if_neg g10]
 rfl
theorem rule_cases (p s:List UInt8)(r:List (List UInt8)):ruleM p s=[]∨topP (ruleM p s++r)=false∨(p=pEXPR∧ruleM p s=[pTERM,pMORETERMS])∨(p=pTERM∧ruleM p s=[pUNARY,pMOREUNARY])∨(p=pARGS∧ruleM p s=[pEXPR,pMOREARGS]):=by
 unfold ruleM
 by_cases hSTMTS:p=pSTMTS
 ·rw[if_pos hSTMTS]
  by_cases g0:s=[105,110]
  ·rw[if_pos g0];right;left;rfl
  ·rw[if_neg g0]
   by_cases g1:s=[108,101,116]
   ·rw[if_pos g1];right;left;rfl
   ·rw[if_neg g1]
    by_cases g2:s=[114,101,112,101,97,116]
    ·rw[if_pos g2];right;left;rfl
    ·rw[if_neg g2]
     by_cases g3:s=[100,101,102]
     ·rw[if_pos g3];right;left;rfl
     ·rw[if_neg g3]
      by_cases g4:s=[111,117,116]
      ·rw[if_pos g4];right;left;rfl
      ·rw[if_neg g4]
       exact .inl rfl
 rw[if_neg hSTMTS]
 by_cases hPARAMS:p=pPARAMS
 ·rw[if_pos hPARAMS]
  by_cases g0:s=[110,97,109,101]
  ·rw[if_pos g0];right;left;rfl
  ·rw[if_neg g0]
   exact .inl rfl
 rw[if_neg hPARAMS]
 by_cases hMOREPARAMS:p=pMOREPARAMS
 ·rw[if_pos hMOREPARAMS]
  by_cases g0:s=[44]
  ·rw[if_pos g0];right;left;rfl
  ·rw[if_neg g0]
   exact .inl rfl
 rw[if_neg hMOREPARAMS]
 by_cases hEXPR:p=pEXPR
 ·rw[if_pos hEXPR]
  exact .inr (.inr (.inl ⟨hEXPR,rfl⟩))
 rw[if_neg hEXPR]
 by_cases hMORETERMS:p=pMORETERMS
 ·rw[if_pos hMORETERMS]
  by_cases g0:s=[43]∨s=[45]
  ·rw[if_pos g0];right;left;rcases g0 with e|e<;>(subst e;rfl)
  ·rw[if_neg g0]
   exact .inl rfl
 rw[if_neg hMORETERMS]
 by_cases hTERM:p=pTERM
 ·rw[if_pos hTERM]
  exact .inr (.inr (.inr (.inl ⟨hTERM,rfl⟩)))
 rw[if_neg hTERM]
 by_cases hMOREUNARY:p=pMOREUNARY
 ·rw[if_pos hMOREUNARY]
  by_cases g0:s=[42]∨s=[47]
  ·rw[if_pos g0];right;left;rcases g0 with e|e<;>(subst e;rfl)
  ·rw[if_neg g0]
   exact .inl rfl
 rw[if_neg hMOREUNARY]
 by_cases hCALL:p=pCALL
 ·rw[if_pos hCALL]
  by_cases g0:s=[40]
  ·rw[if_pos g0];right;left;rfl
  ·rw[if_neg g0]
   exact .inl rfl
 rw[if_neg hCALL]
 by_cases hARGS:p=pARGS
 ·rw[if_pos hARGS]
  by_cases g0:s=[41]
  ·rw[if_pos g0];exact .inl rfl
  ·rw[if_neg g0]
   exact .inr (.inr (.inr (.inr ⟨hARGS,rfl⟩)))
 rw[if_neg hARGS]
 by_cases hMOREARGS:p=pMOREARGS
 ·rw[if_pos hMOREARGS]
  by_cases g0:s=[44]
  ·rw[if_pos g0];right;left;rfl
  ·rw[if_neg g0]
   exact .inl rfl
 rw[if_neg hMOREARGS]
 exact .inr (.inl (unary_top s r))
theorem mu_rule (p s:List UInt8)(r:List (List UInt8))(h:isPartB p=true):mu (ruleM p s++r)<mu (p::r):=by
 have e:mu (p::r)=wt p+wts r+1:=by unfold mu topP;rw[if_pos h];rfl
 rw[e]
 rcases rule_cases p s r with c|c|⟨rfl,c⟩|⟨rfl,c⟩|⟨rfl,c⟩
 ·rw[c,List.nil_append]
  have:=wt_pos p
  unfold mu
  split<;>omega
 ·unfold mu
  rw[if_neg (by rw[c];simp)]
  omega
 all_goals
  rw[c]
  unfold mu
  split
  ·show wt _+(wt _+wts r)+1<_
   have h1:wt pTERM=3:=by decide
   have h2:wt pMORETERMS=1:=by decide
   have h3:wt pEXPR=5:=by decide
   have h4:wt pUNARY=1:=by decide
   have h5:wt pMOREUNARY=1:=by decide
   have h6:wt pMOREARGS=1:=by decide
   have h7:wt pARGS=7:=by decide
   omega
  ·omega
def settleM (s:List UInt8)(st:List (List UInt8)):List (List UInt8):=
 match st with
 |[]=>[]
 |p::r=>if _h:isPartB p=true then settleM s (ruleM p s++r) else p::r
termination_by mu st
decreasing_by exact mu_rule p s r _h
theorem settle_nil (s:List UInt8):settleM s []=[]:=by rw[settleM]
theorem settle_part {s p:List UInt8}{r:List (List UInt8)}(h:isPartB p=true):settleM s (p::r)=settleM s (ruleM p s++r):=by rw[settleM,dif_pos h]
theorem settle_tok {s p:List UInt8}{r:List (List UInt8)}(h:isPartB p=false):settleM s (p::r)=p::r:=by rw[settleM,dif_neg (by rw[h];simp)]
def sEnd:List UInt8:=[101,110,100]
def wrongM (n:Nat):List Tok→List (List UInt8)→Int
 |[],st=>if settleM sEnd st=[] then -1 else (n:Int)
 |t::ts,st=>match settleM t.sym st with
  |[]=>(t.pos:Int)
  |p::r=>if p=t.sym then wrongM n ts r else (t.pos:Int)
end Go.Proofs.YtgamjhpebmmjcaaGreatDoor
namespace Go.Proofs.YtgamjhpebmmjcaaGreatDoor
set_option maxRecDepth 100000
set_option maxHeartbeats 40000000
open Go.RowKit Flt
attribute [local go_sem] alloc_drewN setCell_drewN run_store_float
theorem rule_UNARY (s:List UInt8):ruleM pUNARY s=unaryM s:=rfl
theorem rule_TERM (s:List UInt8):ruleM pTERM s=[pUNARY,pMOREUNARY]:=rfl
theorem rule_EXPR (s:List UInt8):ruleM pEXPR s=[pTERM,pMORETERMS]:=rfl
end Go.Proofs.YtgamjhpebmmjcaaGreatDoor
namespace Go.Proofs.YtgamjhpebmmjcaaGreatDoor
set_option maxRecDepth 100000
set_option maxHeartbeats 40000000
open Go.RowKit Flt
inductive Ex where
 |num (t:Tok)
 |name (t:Tok)
 |neg (o:Tok) (e:Ex)
 |bin (o:Tok) (a b:Ex)
 |call (t:Tok) (es:List Ex)
 |key1 (k:Tok) (e:Ex)
 |key2 (k:Tok) (a b:Ex)
 |key3 (k:Tok) (a b c:Ex)
 |keyN (k:Tok) (e:Ex) (n:Tok)
 |put (k:Tok) (e:Ex) (i n:Tok)
 |grad (k:Tok) (e:Ex) (x:Tok)
 |jvp (k:Tok) (e:Ex) (x:Tok) (d:Ex)
def kExp:List UInt8:=[101,120,112]
def kSum:List UInt8:=[115,117,109]
def kMax:List UInt8:=[109,97,120]
def kDot:List UInt8:=[100,111,116]
def kSel:List UInt8:=[115,101,108]
def kFill:List UInt8:=[102,105,108,108]
def kPick:List UInt8:=[112,105,99,107]
def kPut:List UInt8:=[112,117,116]
def kGrad:List UInt8:=[103,114,97,100]
def kJvp:List UInt8:=[106,118,112]
inductive Pr:Nat→List Ex→List Tok→Prop
 |up01 {e ts}:Pr 0 [e] ts→Pr 1 [e] ts
 |up12 {e ts}:Pr 1 [e] ts→Pr 2 [e] ts
 |add {a b ts us} {o:Tok}:Pr 2 [a] ts→(o.sym=[43]∨o.sym=[45])→Pr 1 [b] us→Pr 2 [.bin o a b] (ts++o::us)
 |mul {a b ts us} {o:Tok}:Pr 1 [a] ts→(o.sym=[42]∨o.sym=[47])→Pr 0 [b] us→Pr 1 [.bin o a b] (ts++o::us)
 |neg {e ts} {o:Tok}:o.sym=[45]→Pr 0 [e] ts→Pr 0 [.neg o e] (o::ts)
 |num {t:Tok}:(t.sym=sInt∨t.sym=sDec)→Pr 0 [.num t] [t]
 |name {t:Tok}:t.sym=sName→Pr 0 [.name t] [t]
 |par {e ts} {l r:Tok}:l.sym=[40]→Pr 2 [e] ts→r.sym=[41]→Pr 0 [e] (l::(ts++[r]))
 |call0 {t l r:Tok}:t.sym=sName→l.sym=[40]→r.sym=[41]→Pr 0 [.call t []] [t,l,r]
 |call {es ts} {t l r:Tok}:t.sym=sName→l.sym=[40]→Pr 3 es ts→r.sym=[41]→Pr 0 [.call t es] (t::l::(ts++[r]))
 |arg1 {e ts}:Pr 2 [e] ts→Pr 3 [e] ts
 |argM {es e ts us} {c:Tok}:Pr 3 es ts→c.sym=[44]→Pr 2 [e] us→Pr 3 (es++[e]) (ts++c::us)
 |key1 {e ts} {k l r:Tok}:(k.sym=kExp∨k.sym=kSum)→l.sym=[40]→Pr 2 [e] ts→r.sym=[41]→Pr 0 [.key1 k e] (k::l::(ts++[r]))
 |key2 {a b ts us} {k l c r:Tok}:(k.sym=kMax∨k.sym=kDot)→l.sym=[40]→Pr 2 [a] ts→c.sym=[44]→Pr 2 [b] us→r.sym=[41]→Pr 0 [.key2 k a b] (k::l::(ts++c::(us++[r])))
 |key3 {a b d ts us ws} {k l c c2 r:Tok}:k.sym=kSel→l.sym=[40]→Pr 2 [a] ts→c.sym=[44]→Pr 2 [b] us→c2.sym=[44]→Pr 2 [d] ws→r.sym=[41]→Pr 0 [.key3 k a b d] (k::l::(ts++c::(us++c2::(ws++[r]))))
 |keyN {e ts} {k l c n r:Tok}:(k.sym=kFill∨k.sym=kPick)→l.sym=[40]→Pr 2 [e] ts→c.sym=[44]→n.sym=sInt→r.sym=[41]→Pr 0 [.keyN k e n] (k::l::(ts++[c,n,r]))
 |put {e ts} {k l c i c2 n r:Tok}:k.sym=kPut→l.sym=[40]→Pr 2 [e] ts→c.sym=[44]→i.sym=sInt→c2.sym=[44]→n.sym=sInt→r.sym=[41]→Pr 0 [.put k e i n] (k::l::(ts++[c,i,c2,n,r]))
 |grad {e ts} {k l c x r:Tok}:k.sym=kGrad→l.sym=[40]→Pr 2 [e] ts→c.sym=[44]→x.sym=sName→r.sym=[41]→Pr 0 [.grad k e x] (k::l::(ts++[c,x,r]))
 |jvp {e d ts us} {k l c x c2 r:Tok}:k.sym=kJvp→l.sym=[40]→Pr 2 [e] ts→c.sym=[44]→x.sym=sName→c2.sym=[44]→Pr 2 [d] us→r.sym=[41]→Pr 0 [.jvp k e x d] (k::l::(ts++c::x::c2::(us++[r])))
end Go.Proofs.YtgamjhpebmmjcaaGreatDoor
namespace Go.Proofs.YtgamjhpebmmjcaaGreatDoor
set_option maxRecDepth 100000
set_option maxHeartbeats 40000000
open Go.RowKit Flt
theorem pr_ne {n:Nat}{es:List Ex}{ts:List Tok}(h:Pr n es ts):ts≠[]:=by
 induction h with
 |up01 _ ih=>exact ih
 |up12 _ ih=>exact ih
 |arg1 _ ih=>exact ih
 |_=>simp
end Go.Proofs.YtgamjhpebmmjcaaGreatDoor
namespace Go.Proofs.YtgamjhpebmmjcaaGreatDoor
set_option maxRecDepth 100000
set_option maxHeartbeats 40000000
open Go.RowKit Flt
def hdS:List Tok→List UInt8
 |[]=>sEnd
 |t::_=>t.sym
theorem wrong_part {n:Nat}{p:List UInt8}{r:List (List UInt8)}(h:isPartB p=true):∀ts:List Tok,wrongM n ts (p::r)=wrongM n ts (ruleM p (hdS ts)++r)
 |[]=>by rw[wrongM,wrongM,settle_part h];rfl
 |t::ts=>by rw[wrongM,wrongM,settle_part h];rfl
end Go.Proofs.YtgamjhpebmmjcaaGreatDoor
namespace Go.Proofs.YtgamjhpebmmjcaaGreatDoor
set_option maxRecDepth 100000
set_option maxHeartbeats 40000000
open Go.RowKit Flt
def kIn:List UInt8:=[105,110]
def kLet:List UInt8:=[108,101,116]
def kOut:List UInt8:=[111,117,116]
def kDef:List UInt8:=[100,101,102]
def kRep:List UInt8:=[114,101,112,101,97,116]
theorem pr_semi {n:Nat}{es:List Ex}{ts:List Tok}(h:Pr n es ts):∀t∈ts,t.sym≠[59]:=by
 induction h with
 |up01 _ ih=>exact ih
 |up12 _ ih=>exact ih
 |arg1 _ ih=>exact ih
 |add _ ho _ ih1 ih2=>
  intro t ht
  simp only[List.mem_append,List.mem_cons] at ht
  rcases ht with ht|rfl|ht
  ·exact ih1 t ht
  ·rcases ho with c|c<;>rw[c]<;>decide
  ·exact ih2 t ht
 |mul _ ho _ ih1 ih2=>
  intro t ht
  simp only[List.mem_append,List.mem_cons] at ht
  rcases ht with ht|rfl|ht
  ·exact ih1 t ht
  ·rcases ho with c|c<;>rw[c]<;>decide
  ·exact ih2 t ht
 |neg ho _ ih=>
  intro t ht
  simp only[List.mem_cons] at ht
  rcases ht with rfl|ht
  ·rw[ho];decide
  ·exact ih t ht
 |num h=>
  intro t ht
  simp only[List.mem_singleton] at ht
  subst ht
  rcases h with c|c<;>rw[c]<;>decide
 |name h=>
  intro t ht
  simp only[List.mem_singleton] at ht
  subst ht
  rw[h];decide
 |par hl _ hr ih=>
  intro t ht
  simp only[List.mem_append,List.mem_cons,List.not_mem_nil,or_false] at ht
  rcases ht with rfl|ht|rfl
  ·rw[hl];decide
  ·exact ih t ht
  ·rw[hr];decide
 |call0 ht hl hr=>
  intro t h
  simp only[List.mem_cons,List.not_mem_nil,or_false] at h
  rcases h with rfl|rfl|rfl
  ·rw[ht];decide
  ·rw[hl];decide
  ·rw[hr];decide
 |call ht hl _ hr ih=>
  intro t h
  simp only[List.mem_append,List.mem_cons,List.not_mem_nil,or_false] at h
  rcases h with rfl|rfl|h|rfl
  ·rw[ht];decide
  ·rw[hl];decide
  ·exact ih t h
  ·rw[hr];decide
 |argM _ hc _ ih1 ih2=>
  intro t ht
  simp only[List.mem_append,List.mem_cons] at ht
  rcases ht with ht|rfl|ht
  ·exact ih1 t ht
  ·rw[hc];decide
  ·exact ih2 t ht
 |key1 hk hl _ hr ih=>
  intro t h
  simp only[List.mem_append,List.mem_cons,List.not_mem_nil,or_false] at h
  rcases h with rfl|rfl|h|rfl
  ·rcases hk with c|c<;>rw[c]<;>decide
  ·rw[hl];decide
  ·exact ih t h
  ·rw[hr];decide
 |key2 hk hl _ hc _ hr ih1 ih2=>
  intro t h
  simp only[List.mem_append,List.mem_cons,List.not_mem_nil,or_false] at h
  rcases h with rfl|rfl|h|rfl|h|rfl
  ·rcases hk with c|c<;>rw[c]<;>decide
  ·rw[hl];decide
  ·exact ih1 t h
  ·rw[hc];decide
  ·exact ih2 t h
  ·rw[hr];decide
 |key3 hk hl _ hc _ hc2 _ hr ih1 ih2 ih3=>
  intro t h
  simp only[List.mem_append,List.mem_cons,List.not_mem_nil,or_false] at h
  rcases h with rfl|rfl|h|rfl|h|rfl|h|rfl
  ·rw[hk];decide
  ·rw[hl];decide
  ·exact ih1 t h
  ·rw[hc];decide
  ·exact ih2 t h
  ·rw[hc2];decide
  ·exact ih3 t h
  ·rw[hr];decide
 |keyN hk hl _ hc hn hr ih=>
  intro t h
  simp only[List.mem_append,List.mem_cons,List.not_mem_nil,or_false] at h
  rcases h with rfl|rfl|h|rfl|rfl|rfl
  ·rcases hk with c|c<;>rw[c]<;>decide
  ·rw[hl];decide
  ·exact ih t h
  ·rw[hc];decide
  ·rw[hn];decide
  ·rw[hr];decide
 |put hk hl _ hc hi hc2 hn hr ih=>
  intro t h
  simp only[List.mem_append,List.mem_cons,List.not_mem_nil,or_false] at h
  rcases h with rfl|rfl|h|rfl|rfl|rfl|rfl|rfl
  ·rw[hk];decide
  ·rw[hl];decide
  ·exact ih t h
  ·rw[hc];decide
  ·rw[hi];decide
  ·rw[hc2];decide
  ·rw[hn];decide
  ·rw[hr];decide
 |grad hk hl _ hc hn hr ih=>
  intro t h
  simp only[List.mem_append,List.mem_cons,List.not_mem_nil,or_false] at h
  rcases h with rfl|rfl|h|rfl|rfl|rfl
  ·rw[hk];decide
  ·rw[hl];decide
  ·exact ih t h
  ·rw[hc];decide
  ·rw[hn];decide
  ·rw[hr];decide
 |jvp hk hl _ hc hx hc2 _ hr ih1 ih2=>
  intro t h
  simp only[List.mem_append,List.mem_cons,List.not_mem_nil,or_false] at h
  rcases h with rfl|rfl|h|rfl|rfl|rfl|h|rfl
  ·rw[hk];decide
  ·rw[hl];decide
  ·exact ih1 t h
  ·rw[hc];decide
  ·rw[hx];decide
  ·rw[hc2];decide
  ·exact ih2 t h
  ·rw[hr];decide
inductive Sm where
 |inS (n l:Tok)
 |letS (n:Tok) (e:Ex)
 |rep (i n:Tok) (e:Ex)
 |defS (n:Tok) (ps:List Tok) (e:Ex)
 |outS (k:Tok) (e:Ex)
inductive PPm:List Tok→List Tok→Prop
 |one {t:Tok}:t.sym=sName→PPm [t] [t]
 |more {ps ts} {c t:Tok}:PPm ps ts→c.sym=[44]→t.sym=sName→PPm (ps++[t]) (ts++[c,t])
theorem pp_sym {ps ts:List Tok}(h:PPm ps ts):∀t∈ts,t.sym=sName∨t.sym=[44]:=by
 induction h with
 |one h=>intro t ht;simp only[List.mem_singleton] at ht;subst ht;exact .inl h
 |more _ hc ht ih=>
  intro t h
  simp only[List.mem_append,List.mem_cons,List.not_mem_nil,or_false] at h
  rcases h with h|rfl|rfl
  ·exact ih t h
  ·exact .inr hc
  ·exact .inl ht
inductive PSm:Sm→List Tok→Prop
 |inS {k n c l:Tok}:k.sym=kIn→n.sym=sName→c.sym=[58]→l.sym=sInt→PSm (.inS n l) [k,n,c,l]
 |letS {k n q:Tok} {e ts}:k.sym=kLet→n.sym=sName→q.sym=[61]→Pr 2 [e] ts→PSm (.letS n e) (k::n::q::ts)
 |rep {k i n q:Tok} {e ts}:k.sym=kRep→i.sym=sInt→n.sym=sName→q.sym=[61]→Pr 2 [e] ts→PSm (.rep i n e) (k::i::n::q::ts)
 |def0 {k n l r q:Tok} {e ts}:k.sym=kDef→n.sym=sName→l.sym=[40]→r.sym=[41]→q.sym=[61]→Pr 2 [e] ts→PSm (.defS n [] e) (k::n::l::r::q::ts)
 |defS {k n l r q:Tok} {e ps us ts}:k.sym=kDef→n.sym=sName→l.sym=[40]→PPm ps us→r.sym=[41]→q.sym=[61]→Pr 2 [e] ts→PSm (.defS n ps e) (k::n::l::(us++r::q::ts))
 |outS {k:Tok} {e ts}:k.sym=kOut→Pr 2 [e] ts→PSm (.outS k e) (k::ts)
theorem ps_semi {s:Sm}{ts:List Tok}(h:PSm s ts):∀t∈ts,t.sym≠[59]:=by
 cases h with
 |inS h1 h2 h3 h4=>
  intro t h
  simp only[List.mem_cons,List.not_mem_nil,or_false] at h
  rcases h with rfl|rfl|rfl|rfl
  ·rw[h1];decide
  ·rw[h2];decide
  ·rw[h3];decide
  ·rw[h4];decide
 |letS h1 h2 h3 h4=>
  intro t h
  simp only[List.mem_cons] at h
  rcases h with rfl|rfl|rfl|h
  ·rw[h1];decide
  ·rw[h2];decide
  ·rw[h3];decide
  ·exact pr_semi h4 t h
 |rep h1 h2 h3 h4 h5=>
  intro t h
  simp only[List.mem_cons] at h
  rcases h with rfl|rfl|rfl|rfl|h
  ·rw[h1];decide
  ·rw[h2];decide
  ·rw[h3];decide
  ·rw[h4];decide
  ·exact pr_semi h5 t h
 |def0 h1 h2 h3 h4 h5 h6=>
  intro t h
  simp only[List.mem_cons] at h
  rcases h with rfl|rfl|rfl|rfl|rfl|h
  ·rw[h1];decide
  ·rw[h2];decide
  ·rw[h3];decide
  ·rw[h4];decide
  ·rw[h5];decide
  ·exact pr_semi h6 t h
 |defS h1 h2 h3 h4 h5 h6 h7=>
  intro t h
  simp only[List.mem_cons,List.mem_append] at h
  rcases h with rfl|rfl|rfl|h|rfl|rfl|h
  ·rw[h1];decide
  ·rw[h2];decide
  ·rw[h3];decide
  ·rcases pp_sym h4 t h with c|c<;>rw[c]<;>decide
  ·rw[h5];decide
  ·rw[h6];decide
  ·exact pr_semi h7 t h
 |outS h1 h2=>
  intro t h
  simp only[List.mem_cons] at h
  rcases h with rfl|h
  ·rw[h1];decide
  ·exact pr_semi h2 t h
inductive PGm:List Sm→List Tok→Prop
 |nil:PGm [] []
 |cons {s ss ts us} {c:Tok}:PSm s ts→c.sym=[59]→PGm ss us→PGm (s::ss) (ts++c::us)
end Go.Proofs.YtgamjhpebmmjcaaGreatDoor
