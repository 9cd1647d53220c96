import Derived.Test.YtgamjhpebmmjcaaGreatDoorP24
import Derived.Test.YtgamjhpebmmjcaaGreatDoorP29
import Derived.Test.YtgamjhpebmmjcaaGreatDoorP23
import Derived.Test.YtgamjhpebmmjcaaGreatDoorP06
import Derived.Test.YtgamjhpebmmjcaaGreatDoorP39
import Derived.Test.YtgamjhpebmmjcaaGreatDoorP40
import Derived.Test.YtgamjhpebmmjcaaGreatDoorP12
namespace Go.Proofs.YtgamjhpebmmjcaaGreatDoor
set_option maxRecDepth 100000
set_option maxHeartbeats 40000000
open Go.RowKit Flt
def dupM:List Tok→List Tok→Option Nat
 |_,[]=>none
 |seen,p::r=>if seen.any (fun q=>q.text==p.text)=true then some p.pos else dupM (seen++[p]) r
def idxN (ns:List Bdg)(s:List UInt8):Nat:=ns.findIdx fun b=>b.nm==s
def LSt.setV (st:LSt)(i:Nat)(s:List UInt8)(v:Nat):LSt:={st with names:=st.names.set i (.val s v)}
def repM (f:Nat)(e:Ex)(i:Nat)(s:List UInt8):Nat→LSt→Option (Rs LSt)
 |0,st=>some (.ok st)
 |k+1,st=>match evalE f st [] e with
  |none=>none
  |some (.error q)=>some (.error q)
  |some (.ok (st1,v))=>repM f e i s k (st1.setV i s v)
def bindS (s:List UInt8)(r:Rs (LSt×Nat)):Rs LSt:=match r with
 |.error q=>.error q
 |.ok (st,v)=>.ok {st with names:=st.names++[.val s v]}
def outR (r:Rs (LSt×Nat)):Rs LSt:=match r with
 |.error q=>.error q
 |.ok (st,v)=>.ok {st with outs:=st.outs++[(v:Int)]}
def inR (st:LSt)(n l:Tok):Rs LSt:=
 if intM l.text<1∨1000<intM l.text then .error (4,l.pos)
 else if 20≤st.ins.length then .error (5,n.pos)
 else bindS n.text (putM {st with ins:=st.ins++[intM l.text]} (vput 0 (intM l.text) (st.ins.length:Int) 0 0) n.pos)
def defR (st:LSt)(n:Tok)(ps:List Tok)(e:Ex):Rs LSt:=match dupM [] ps with
 |some p=>.error (3,p)
 |none=>.ok {st with names:=st.names++[.fn n.text ps e]}
def newB (st:LSt)(n:Tok)(r:Option (Rs LSt)):Option (Rs LSt):=match findB st.names n.text with
 |some _=>some (.error (3,n.pos))
 |none=>r
def stmtM (f:Nat)(st:LSt):Sm→Option (Rs LSt)
 |.outS k e=>if 50≤st.outs.length then some (.error (5,k.pos)) else (evalE f st [] e).map outR
 |.rep i n e=>match findB st.names n.text with
  |some (.val _ _)=>if 100<intM i.text then some (.error (5,i.pos)) else repM f e (idxN st.names n.text) n.text (intM i.text).toNat st
  |_=>some (.error (3,n.pos))
 |.defS n ps e=>newB st n (some (defR st n ps e))
 |.letS n e=>newB st n ((evalE f st [] e).map (bindS n.text))
 |.inS n l=>newB st n (some (inR st n l))
def progM (f:Nat):LSt→List Sm→Option (Rs LSt)
 |st,[]=>some (.ok st)
 |st,s::ss=>match stmtM f st s with
  |none=>none
  |some (.error q)=>some (.error q)
  |some (.ok st1)=>progM f st1 ss
end Go.Proofs.YtgamjhpebmmjcaaGreatDoor
namespace Go.Proofs.YtgamjhpebmmjcaaGreatDoor
set_option maxRecDepth 100000
set_option maxHeartbeats 40000000
open Go.RowKit Flt
structure Tsk where
 e:Ex
 loc:Loc
 ent:Bool
def kidsE:Ex→List Ex
 |.num _=>[]
 |.name _=>[]
 |.neg _ e=>[e]
 |.bin _ a b=>[a,b]
 |.call _ es=>es
 |.key1 _ e=>[e]
 |.key2 k a b=>if k.sym=kMax then[a,b] else[.bin ⟨[42],k.pos,k.text⟩ a b]
 |.key3 _ a b c=>[a,b,c]
 |.keyN _ e _=>[e]
 |.put _ e _ _=>[e]
 |.grad _ e _=>[e]
 |.jvp _ e _ d=>[e,d]
def entE (st:LSt)(loc:Loc):Ex→Option Flt3
 |.grad _ _ x=>match valueM st loc x with
  |.error q=>some q
  |.ok _=>none
 |.jvp _ _ x _=>match valueM st loc x with
  |.error q=>some q
  |.ok _=>none
 |.call t es=>match findB st.names t.text with
  |some (.fn _ ps _)=>if ps.length=es.length then none else some (3,t.pos)
  |_=>some (3,t.pos)
 |_=>none
def valE (st:LSt)(loc:Loc)(e:Ex)(xs:List Nat):Rs (LSt×Nat):=
 match e with
 |.num t=>putM st ⟨1,1,0,0,0,numK t.text⟩ t.pos
 |.name t=>match valueM st loc t with|.error f=>.error f|.ok v=>.ok (st,v)
 |.neg o _=>putM st (vput 6 (lenA st (xs.getD 0 0)) (xs.getD 0 0:Nat) 0 0) o.pos
 |.bin o _ _=>binM st o (xs.getD 0 0) (xs.getD 1 0)
 |.call _ _=>.error (0,0)
 |.key1 k _=>if k.sym=kExp then putM st (vput 13 (lenA st (xs.getD 0 0)) (xs.getD 0 0:Nat) 0 0) k.pos else putM st (vput 9 1 (xs.getD 0 0:Nat) 0 0) k.pos
 |.key2 k _ _=>if k.sym=kMax then two2M st k (xs.getD 0 0) (xs.getD 1 0) else putM st (vput 9 1 (xs.getD 0 0:Nat) 0 0) k.pos
 |.key3 k _ _ _=>selM st k (xs.getD 0 0) (xs.getD 1 0) (xs.getD 2 0)
 |.keyN k _ n=>placeN st k (xs.getD 0 0) n
 |.put k _ i n=>placeP st k (xs.getD 0 0) i n
 |.grad k _ x=>match valueM st loc x with
  |.error q=>.error q
  |.ok v=>gradM st k (xs.getD 0 0) v
 |.jvp k _ x _=>match valueM st loc x with
  |.error q=>.error q
  |.ok v=>jvpM st k (xs.getD 0 0) v (xs.getD 1 0)
structure Cnf where
 st:LSt
 ks:List Tsk
 xs:List Nat
def callC (st:LSt)(t:Tok)(es:List Ex)(S:List Tsk)(X ys:List Nat):Rs Cnf:=
 if 500≤st.calls then .error (5,t.pos) else
 match findB st.names t.text with
 |some (.fn _ ps body)=>if ps.length=es.length then .ok ⟨{st with calls:=st.calls+1},⟨body,(ps.map (·.text)).zip ys,false⟩::S,X⟩ else .error (3,t.pos)
 |_=>.error (3,t.pos)
def valC (r:Rs (LSt×Nat))(S:List Tsk)(X:List Nat):Rs Cnf:=match r with
 |.error q=>.error q
 |.ok (st,a)=>.ok ⟨st,S,X++[a]⟩
def leaveC (st:LSt)(t:Tsk)(S:List Tsk)(xs:List Nat):Rs Cnf:=
 match t.e with
 |.call tk es=>callC st tk es S (xs.take (xs.length-es.length)) (xs.drop (xs.length-es.length))
 |e=>valC (valE st t.loc e (xs.drop (xs.length-(kidsE e).length))) S (xs.take (xs.length-(kidsE e).length))
def enterC (st:LSt)(t:Tsk)(S:List Tsk)(xs:List Nat):Rs Cnf:=
 match entE st t.loc t.e with
 |some q=>.error q
 |none=>.ok ⟨st,(kidsE t.e).map (fun e=>⟨e,t.loc,false⟩)++⟨t.e,t.loc,true⟩::S,xs⟩
def runC:Nat→LSt→List Tsk→List Nat→Option (Rs (LSt×List Nat))
 |_,st,[],xs=>some (.ok (st,xs))
 |0,_,_::_,_=>none
 |n+1,st,t::S,xs=>
  if t.ent=true then
   if xs.length<(kidsE t.e).length then none else
   match leaveC st t S xs with
   |.error q=>some (.error q)
   |.ok c=>runC n c.st c.ks c.xs
  else match enterC st t S xs with
   |.error q=>some (.error q)
   |.ok c=>runC n c.st c.ks c.xs
def oneL (r:Rs (LSt×Nat)):Rs (LSt×List Nat):=match r with
 |.error q=>.error q
 |.ok (s,a)=>.ok (s,[a])
abbrev mkT (loc:Loc)(e:Ex):Tsk:=⟨e,loc,false⟩
def isCall:Ex→Bool
 |.call _ _=>true
 |_=>false
theorem leave_val {st:LSt}{e:Ex}{loc:Loc}{b:Bool}{S:List Tsk}{X ys:List Nat}(hc:isCall e=false)(hl:ys.length=(kidsE e).length):leaveC st ⟨e,loc,b⟩ S (X++ys)=valC (valE st loc e ys) S X:=by
 have e1:(X++ys).length-(kidsE e).length=X.length:=by rw[List.length_append,hl];omega
 have:leaveC st ⟨e,loc,b⟩ S (X++ys)=valC (valE st loc e ((X++ys).drop ((X++ys).length-(kidsE e).length))) S ((X++ys).take ((X++ys).length-(kidsE e).length)):=by
  cases e<;>first|rfl|cases hc
 rw[this,e1,List.drop_left,List.take_left]
section
variable {ev:LSt→Ex→Option (Rs (LSt×Nat))} {st:LSt} {r:Rs (LSt×Nat)} {a b c:Ex}
end
end Go.Proofs.YtgamjhpebmmjcaaGreatDoor
namespace Go.Proofs.YtgamjhpebmmjcaaGreatDoor
set_option maxRecDepth 100000
set_option maxHeartbeats 40000000
open Go.RowKit Flt
mutual
def szE:Ex→Nat
 |.num _=>1
 |.name _=>1
 |.neg _ e=>1+szE e
 |.bin _ a b=>1+szE a+szE b
 |.call _ es=>1+szL es
 |.key1 _ e=>1+szE e
 |.key2 _ a b=>2+szE a+szE b
 |.key3 _ a b c=>1+szE a+szE b+szE c
 |.keyN _ e _=>1+szE e
 |.put _ e _ _=>1+szE e
 |.grad _ e _=>1+szE e
 |.jvp _ e _ d=>1+szE e+szE d
def szL:List Ex→Nat
 |[]=>0
 |e::r=>szE e+szL r
end
theorem sz_kids (e:Ex):1+szL (kidsE e)≤szE e:=by
 cases e with
 |key2 k a b=>
  simp only[kidsE]
  split
  ·simp only[szL,szE];omega
  ·simp only[szL,szE];omega
 |_=>simp only[kidsE,szL,szE];omega
theorem sz_pos (e:Ex):1≤szE e:=by have:=sz_kids e;omega
mutual
def tkE:Ex→List Tok
 |.num t=>[t]
 |.name t=>[t]
 |.neg o e=>o::tkE e
 |.bin o a b=>o::(tkE a++tkE b)
 |.call t es=>t::tkL es
 |.key1 k e=>k::tkE e
 |.key2 k a b=>k::(tkE a++tkE b)
 |.key3 k a b c=>k::(tkE a++(tkE b++tkE c))
 |.keyN k e n=>k::n::tkE e
 |.put k e i n=>k::i::n::tkE e
 |.grad k e x=>k::x::tkE e
 |.jvp k e x d=>k::x::(tkE e++tkE d)
def tkL:List Ex→List Tok
 |[]=>[]
 |e::r=>tkE e++tkL r
end
mutual
def nmE:Ex→List Tok
 |.num t=>[t]
 |.name _=>[]
 |.neg _ e=>nmE e
 |.bin _ a b=>nmE a++nmE b
 |.call _ es=>nmL es
 |.key1 _ e=>nmE e
 |.key2 _ a b=>nmE a++nmE b
 |.key3 _ a b c=>nmE a++(nmE b++nmE c)
 |.keyN _ e _=>nmE e
 |.put _ e _ _=>nmE e
 |.grad _ e _=>nmE e
 |.jvp _ e _ d=>nmE e++nmE d
def nmL:List Ex→List Tok
 |[]=>[]
 |e::r=>nmE e++nmL r
end
theorem mem_nmL {es:List Ex}{e:Ex}{k:Tok}(he:e∈es)(hk:k∈nmE e):k∈nmL es:=by
 induction es with
 |nil=>cases he
 |cons x r ih=>
  rw[nmL]
  rcases List.mem_cons.1 he with rfl|he
  ·exact List.mem_append_left _ hk
  ·exact List.mem_append_right _ (ih he)
structure ENk (e:Ex):Prop where
 t:∀k∈tkE e,k.sym≠[]∧k.text≠[]
 n:∀k∈nmE e,NumOK k.text
theorem mem_tkL {es:List Ex}{e:Ex}{k:Tok}(he:e∈es)(hk:k∈tkE e):k∈tkL es:=by
 induction es with
 |nil=>cases he
 |cons x r ih=>
  rw[tkL]
  rcases List.mem_cons.1 he with rfl|he
  ·exact List.mem_append_left _ hk
  ·exact List.mem_append_right _ (ih he)
theorem tk_kids {e:Ex}(h:∀k∈tkE e,k.sym≠[]∧k.text≠[]):∀x∈kidsE e,∀k∈tkE x,k.sym≠[]∧k.text≠[]:=by
 intro x hx k hk
 cases e with
 |num t=>cases hx
 |name t=>cases hx
 |call t es=>exact h k (List.mem_cons_of_mem _ (mem_tkL hx hk))
 |key2 o a b=>
  simp only[kidsE] at hx
  split at hx
  ·simp only[List.mem_cons,List.not_mem_nil,or_false] at hx
   rcases hx with rfl|rfl<;>exact h k (by simp[tkE,hk])
  ·simp only[List.mem_cons,List.not_mem_nil,or_false] at hx
   subst hx
   simp only[tkE,List.mem_cons,List.mem_append] at hk
   rcases hk with rfl|hk|hk
   ·exact⟨by show[42]≠[];decide,(h o (by simp[tkE])).2⟩
   ·exact h k (by simp[tkE,hk])
   ·exact h k (by simp[tkE,hk])
 |_=>
  simp only[kidsE,List.mem_cons,List.not_mem_nil,or_false] at hx
  first
   |(subst hx;exact h k (by simp[tkE,hk]))
   |(rcases hx with rfl|rfl<;>exact h k (by simp[tkE,hk]))
   |(rcases hx with rfl|rfl|rfl<;>exact h k (by simp[tkE,hk]))
theorem nm_kids {e:Ex}:∀x∈kidsE e,∀k∈nmE x,k∈nmE e:=by
 intro x hx k hk
 cases e with
 |num t=>cases hx
 |name t=>cases hx
 |call t es=>exact mem_nmL hx hk
 |key2 o a b=>
  simp only[kidsE] at hx
  split at hx
  ·simp only[List.mem_cons,List.not_mem_nil,or_false] at hx
   rcases hx with rfl|rfl<;>simp[nmE,hk]
  ·simp only[List.mem_cons,List.not_mem_nil,or_false] at hx
   subst hx
   exact hk
 |_=>
  simp only[kidsE,List.mem_cons,List.not_mem_nil,or_false] at hx
  first
   |(subst hx;simp[nmE,hk])
   |(rcases hx with rfl|rfl<;>simp[nmE,hk])
   |(rcases hx with rfl|rfl|rfl<;>simp[nmE,hk])
theorem ENk.kids {e:Ex}(h:ENk e):∀x∈kidsE e,ENk x:=fun x hx=>⟨tk_kids h.t x hx,fun k hk=>h.n k (nm_kids x hx k hk)⟩
def wtK (t:Tsk):Nat:=if t.ent=true then 1 else szE t.e
def wtS:List Tsk→Nat
 |[]=>0
 |t::r=>wtK t+wtS r
theorem wtS_app (a b:List Tsk):wtS (a++b)=wtS a+wtS b:=by
 induction a with
 |nil=>simp[wtS]
 |cons x r ih=>rw[List.cons_append,wtS,wtS,ih];omega
theorem wtS_len:∀(ks:List Tsk),ks.length≤wtS ks
 |[]=>Nat.le_refl _
 |t::r=>by
  have:=wtS_len r
  have:1≤wtK t:=by
   unfold wtK
   split
   ·exact Nat.le_refl _
   ·exact sz_pos _
  rw[wtS,List.length_cons]
  omega
theorem wtS_map (loc:Loc):∀(es:List Ex),wtS (es.map (mkT loc))=szL es
 |[]=>rfl
 |e::r=>by rw[List.map_cons,wtS,szL,wtS_map loc r];rfl
def NmS (ns:List Bdg):Prop:=∀nm ps body,Bdg.fn nm ps body∈ns→szE body≤10000
theorem getD_mem {xs:List Nat}{n i:Nat}(h:∀y∈xs,y<n)(hi:i<xs.length):xs.getD i 0<n:=by
 rw[List.getD_eq_getElem?_getD,List.getElem?_eq_getElem hi]
 exact h _ (List.getElem_mem hi)
end Go.Proofs.YtgamjhpebmmjcaaGreatDoor
namespace Go.Proofs.YtgamjhpebmmjcaaGreatDoor
set_option maxRecDepth 100000
set_option maxHeartbeats 40000000
open Go.RowKit Flt
theorem own_chg {base e size n:Nat}{v:Value}{xs:List Value}{S:Nat→Prop}{W W':World}(h:W.ownsRow base e size v n xs)(c:Chg S W W')(hS:∀b,v.ownBlock=some b→¬S b):W'.ownsRow base e size v n xs:=by
 refine⟨h.1,h.2.imp id ?_⟩
 rintro⟨g,cap,cur,e1,b1,b2,b3⟩
 refine⟨g,cap,cur,e1,b1,?_,b3⟩
 have hg:g<W.heap.size:=by
  rcases Nat.lt_or_ge g W.heap.size with c|c
  ·exact c
  ·rw[Array.getElem?_eq_none c] at b2;cases b2
 rw[c.block g hg (hS g (by rw[e1];rfl))]
 exact b2
theorem Mp.chg {w w':World}{b:Nat}{F:List UInt8→Option Value}{S:Nat→Prop}(h:Mp w b F)(c:Chg S w w')(hS:¬S b):Mp w' b F:=h.same (c.block b h.lt hS)
structure Tqe where
 P:Nat
 T:Nat
 V:Nat
 F:Nat
 N:Nat
 u1:Value
 u3:Value
def valF (ns:List Bdg)(s:List UInt8):Option Value:=match findB ns s with
 |some (.val _ v)=>some (.int .i64 (v:Int))
 |_=>none
def FnA (W:World)(N:Nat)(b:Option Bdg)(g:Option Value):Prop:=match b with
 |some (.fn _ ps body)=>∃sl T x,g=some (.agg #[sl,.iface T x])∧PkR W 0 sl (ps.map cvT)∧(∀b,sl.ownBlock=some b→b<N)∧Nd W (fun b=>b<N) (.iface T x) body∧(ps.map (·.text)).Nodup∧ENk body∧∀p∈ps,p.sym≠[]∧p.text≠[]
 |_=>g=none
theorem FnA.chg {W W':World}{N:Nat}{b:Option Bdg}{g:Option Value}{S:Nat→Prop}(h:FnA W N b g)(c:Chg S W W')(hS:∀b,S b→¬b<N):FnA W' N b g:=by
 cases b with
 |none=>exact h
 |some b=>
  cases b with
  |val n v=>exact h
  |fn n ps body=>
   obtain⟨sl,T,x,h1,h2,h3,h4,h5⟩:=h
   exact⟨sl,T,x,h1,own_chg h2 c (fun b e q=>hS b q (h3 b e)),h3,h4.chg c hS,h5⟩
def PrM (W:World)(ρ:Nat→Nat)(v:Value)(loc:Loc):Prop:=(v=.map none∧loc=[])∨∃q,v=.map (some q)∧ρ q=10∧Mp W q (fun s=>(locM loc s).map fun n:Nat=>Value.int .i64 (n:Int))
structure TkV where
 v:Value
 p:Value
 t:Tsk
def TkV.cells (y:TkV):List Value:=[y.v,y.p,.bool y.t.ent]
def tkC:List TkV→List Value
 |[]=>[]
 |y::r=>y.cells++tkC r
theorem tkC_app (a b:List TkV):tkC (a++b)=tkC a++tkC b:=by
 induction a with
 |nil=>rfl
 |cons x r ih=>simp[tkC,ih]
theorem tkC_one (y:TkV):tkC [y]=y.cells:=by simp[tkC]
theorem tkC_len (a:List TkV):(tkC a).length=a.length*3:=by
 induction a with
 |nil=>rfl
 |cons x r ih=>rw[tkC,List.length_append,ih];simp[TkV.cells];omega
def intsN (xs:List Nat):List Value:=xs.map fun n:Nat=>.int .i64 (n:Int)
def intsI (xs:List Int):List Value:=xs.map fun n=>.int .i64 n
structure TqB (E:Tqe)(ρ:Nat→Nat)(W:World)(ins:List Int)(vs:List Vl)(outs:List Int)(u1 u3 vv:Value):Prop where
 b:BS W E.P u1 u3 vs (cellsV vs) E.N vv.ownBlock vv
 i:W.ownsRow E.N 3 1 u1 ins.length (intsI ins)
 o:W.ownsRow E.N 3 1 u3 outs.length (intsI outs)
 rP:ρ E.P=1
 rR:∀b,vv.ownBlock=some b→ρ b=5
 ri:∀b,u1.ownBlock=some b→ρ b=6
 ro:∀b,u3.ownBlock=some b→ρ b=7
 e1:u1=E.u1
 e3:u3=E.u3
structure TcC (E:Tqe)(W:World)(calls:Nat)(tv xv:Value):Prop where
 lt:E.T<W.heap.size
 fz:∀o,W.frozen? ⟨E.T,o,none⟩=false
 t0:W.cell? ⟨E.T,0,none⟩=some (.pointer (some ⟨E.P,0,none⟩))
 t1:W.cell? ⟨E.T,1,none⟩=some (.map (some E.V))
 t2:W.cell? ⟨E.T,2,none⟩=some (.map (some E.F))
 t3:W.cell? ⟨E.T,3,none⟩=some (.int .i64 (calls:Int))
 t4:W.cell? ⟨E.T,4,none⟩=some tv
 t5:W.cell? ⟨E.T,5,none⟩=some xv
theorem TcC.chg {E:Tqe}{W W':World}{calls:Nat}{tv xv:Value}{S:Nat→Prop}(h:TcC E W calls tv xv)(c:Chg S W W')(hT:¬S E.T):TcC E W' calls tv xv:=
 ⟨Nat.lt_of_lt_of_le h.lt c.size,fun o=>(c.frozen (p:=⟨E.T,o,none⟩) h.lt hT).trans (h.fz o),(c.cell (p:=⟨E.T,0,none⟩) h.lt hT).trans h.t0,(c.cell (p:=⟨E.T,1,none⟩) h.lt hT).trans h.t1,(c.cell (p:=⟨E.T,2,none⟩) h.lt hT).trans h.t2,(c.cell (p:=⟨E.T,3,none⟩) h.lt hT).trans h.t3,(c.cell (p:=⟨E.T,4,none⟩) h.lt hT).trans h.t4,(c.cell (p:=⟨E.T,5,none⟩) h.lt hT).trans h.t5⟩
theorem T_oth {T k o:Nat}{W:World}{v:Value}(h:k≠o):(W.setCell ⟨T,k,none⟩ v).cell? ⟨T,o,none⟩=W.cell? ⟨T,o,none⟩:=World.cell?_setCell_other W ⟨T,k,none⟩ ⟨T,o,none⟩ v (fun c=>h (congrArg Addr.off c))
theorem TcC.set4 {E:Tqe}{W:World}{calls:Nat}{tv xv:Value}(h:TcC E W calls tv xv)(v:Value):TcC E (W.setCell ⟨E.T,4,none⟩ v) calls v xv:=
 ⟨by simpa[go_sem] using h.lt,fun o=>by rw[World.frozen?_setCell];exact h.fz o,by rw[T_oth (by decide)];exact h.t0,by rw[T_oth (by decide)];exact h.t1,by rw[T_oth (by decide)];exact h.t2,by rw[T_oth (by decide)];exact h.t3,by rw[World.cell?_setCell_same (h:=h.t4)],by rw[T_oth (by decide)];exact h.t5⟩
theorem TcC.set5 {E:Tqe}{W:World}{calls:Nat}{tv xv:Value}(h:TcC E W calls tv xv)(v:Value):TcC E (W.setCell ⟨E.T,5,none⟩ v) calls tv v:=
 ⟨by simpa[go_sem] using h.lt,fun o=>by rw[World.frozen?_setCell];exact h.fz o,by rw[T_oth (by decide)];exact h.t0,by rw[T_oth (by decide)];exact h.t1,by rw[T_oth (by decide)];exact h.t2,by rw[T_oth (by decide)];exact h.t3,by rw[T_oth (by decide)];exact h.t4,by rw[World.cell?_setCell_same (h:=h.t5)]⟩
structure TqT (E:Tqe)(ρ:Nat→Nat)(W:World)(names:List Bdg)(calls:Nat)(L:List TkV)(xs:List Nat)(tv xv:Value):Prop extends TcC E W calls tv xv where
 k:W.ownsRow E.N 296 3 tv L.length (tkC L.reverse)
 x:W.ownsRow E.N 3 1 xv xs.length (intsN xs)
 v:Mp W E.V (valF names)
 f:∃G,Mp W E.F G∧∀s,FnA W E.N (findB names s) (G s)
 l:∀y∈L,Nd W (fun b=>b<E.N) y.v y.t.e∧PrM W ρ y.p y.t.loc∧ENk y.t.e
 rT:ρ E.T=2
 rV:ρ E.V=3
 rF:ρ E.F=4
 rk:∀b,tv.ownBlock=some b→ρ b=8
 rx:∀b,xv.ownBlock=some b→ρ b=9
 r0:∀b,b<E.N→ρ b=0
 rN:∀b,W.heap.size≤b→ρ b=0
 sz:E.N≤W.heap.size
def Tq (E:Tqe)(ρ:Nat→Nat)(W:World)(st:LSt)(L:List TkV)(xs:List Nat):Prop:=∃u1 u3 vv tv xv,TqB E ρ W st.ins st.vs st.outs u1 u3 vv∧TqT E ρ W st.names st.calls L xs tv xv
structure Sco (ρ:Nat→Nat)(W:World)(ρ':Nat→Nat)(W':World):Prop where
 chg:Chg (fun b=>ρ b≠0) W W'
 ext:∀b,b<W.heap.size→ρ' b=ρ b
theorem Sco.refl (ρ:Nat→Nat)(W:World):Sco ρ W ρ W:=⟨⟨rfl,rfl,rfl,Nat.le_refl _,fun _ _ _=>rfl⟩,fun _ _=>rfl⟩
theorem Sco.trans {ρ ρ' ρ'':Nat→Nat}{W W' W'':World}(a:Sco ρ W ρ' W')(b:Sco ρ' W' ρ'' W''):Sco ρ W ρ'' W'' where
 chg:=⟨b.chg.os.trans a.chg.os,b.chg.tape.trans a.chg.tape,b.chg.output.trans a.chg.output,Nat.le_trans a.chg.size b.chg.size,fun k hk hn=>by
  rw[b.chg.block k (Nat.lt_of_lt_of_le hk a.chg.size) (by rw[a.ext k hk];exact hn)]
  exact a.chg.block k hk hn⟩
 ext:=fun i hi=>(b.ext i (Nat.lt_of_lt_of_le hi a.chg.size)).trans (a.ext i hi)
theorem Sco.of {ρ ρ':Nat→Nat}{W W':World}{S:Nat→Prop}(c:Chg S W W')(hS:∀b,b<W.heap.size→S b→ρ b≠0)(e:∀b,b<W.heap.size→ρ' b=ρ b):Sco ρ W ρ' W':=⟨⟨c.os,c.tape,c.output,c.size,fun k hk hn=>c.block k hk (fun q=>hn (hS k hk q))⟩,e⟩
theorem Sco.kept {ρ:Nat→Nat}{W W':World}(k:Kept 0 0 W W'):Sco ρ W ρ W':=⟨k.chg,fun _ _=>rfl⟩
theorem PrM.chg {W W':World}{ρ ρ':Nat→Nat}{v:Value}{loc:Loc}{S:Nat→Prop}(h:PrM W ρ v loc)(c:Chg S W W')(hS:∀b,S b→ρ b≠10)(e:∀b,b<W.heap.size→ρ' b=ρ b):PrM W' ρ' v loc:=by
 rcases h with h|⟨q,h1,h2,h3⟩
 ·exact .inl h
 ·exact .inr ⟨q,h1,(e q h3.lt).trans h2,h3.chg c (fun q'=>hS _ q' h2)⟩
theorem TqT.chgN {E:Tqe}{ρ ρ':Nat→Nat}{W W':World}{names:List Bdg}{calls:Nat}{L:List TkV}{xs:List Nat}{tv xv:Value}{S:Nat→Prop}(h:TqT E ρ W names calls L xs tv xv)(c:Chg S W W')
  (hS:∀b,b<W.heap.size→S b→E.N≤b∧ρ b≠2∧ρ b≠3∧ρ b≠4∧ρ b≠8∧ρ b≠9∧ρ b≠10) (e:∀b,b<W.heap.size→ρ' b=ρ b) (eN:∀b,W'.heap.size≤b→ρ' b=0):TqT E ρ' W' names calls L xs tv xv:=by
 have c':Chg (fun b=>b<W.heap.size∧S b) W W':=⟨c.os,c.tape,c.output,c.size,fun k hk hn=>c.block k hk (fun q=>hn ⟨hk,q⟩)⟩
 have hT:¬(E.T<W.heap.size∧S E.T):=fun q=>(hS _ q.1 q.2).2.1 h.rT
 have hN:∀b,(b<W.heap.size∧S b)→¬b<E.N:=fun b q hb=>by have:=(hS b q.1 q.2).1;omega
 obtain⟨G,g1,g2⟩:=h.f
 refine⟨h.toTcC.chg c' hT,
  own_chg h.k c' (fun b e q=>(hS b q.1 q.2).2.2.2.2.1 (h.rk b e)),own_chg h.x c' (fun b e q=>(hS b q.1 q.2).2.2.2.2.2.1 (h.rx b e)),
  h.v.chg c' (fun q=>(hS _ q.1 q.2).2.2.1 h.rV),⟨G,g1.chg c' (fun q=>(hS _ q.1 q.2).2.2.2.1 h.rF),fun s=>(g2 s).chg c' hN⟩,
  fun y hy=>⟨(h.l y hy).1.chg c' hN,(h.l y hy).2.1.chg c' (fun b q=>(hS b q.1 q.2).2.2.2.2.2.2) e,(h.l y hy).2.2⟩,
  (e _ h.lt).trans h.rT,(e _ h.v.lt).trans h.rV,(e _ g1.lt).trans h.rF,fun b q=>(e b (own_blkV h.k q).2).trans (h.rk b q),fun b q=>(e b (own_blkV h.x q).2).trans (h.rx b q),
  fun b q=>(e b (Nat.lt_of_lt_of_le q h.sz)).trans (h.r0 b q),eN,Nat.le_trans h.sz c.size⟩
theorem TqT.chg {E:Tqe}{ρ ρ':Nat→Nat}{W W':World}{names:List Bdg}{calls:Nat}{L:List TkV}{xs:List Nat}{tv xv:Value}{S:Nat→Prop}(h:TqT E ρ W names calls L xs tv xv)(c:Chg S W W')
  (hS:∀b,b<W.heap.size→S b→ρ b≠0∧ρ b≠2∧ρ b≠3∧ρ b≠4∧ρ b≠8∧ρ b≠9∧ρ b≠10) (e:∀b,b<W.heap.size→ρ' b=ρ b) (eN:∀b,W'.heap.size≤b→ρ' b=0):TqT E ρ' W' names calls L xs tv xv:=
 h.chgN c (fun b hb q=>⟨Nat.le_of_not_lt (fun k=>(hS b hb q).1 (h.r0 b k)),(hS b hb q).2⟩) e eN
theorem TqT.own {E:Tqe}{ρ ρ':Nat→Nat}{W W':World}{names:List Bdg}{calls calls':Nat}{L L':List TkV}{xs xs':List Nat}{tv xv tv' xv':Value}{S:Nat→Prop}(h:TqT E ρ W names calls L xs tv xv)(c:Chg S W W')
  (hS:∀b,b<W.heap.size→S b→ρ b=2∨ρ b=8∨ρ b=9) (e:∀b,b<W.heap.size→ρ' b=ρ b) (eN:∀b,W'.heap.size≤b→ρ' b=0) (hT:TcC E W' calls' tv' xv')
  (hk:W'.ownsRow E.N 296 3 tv' L'.length (tkC L'.reverse)) (rk:∀b,tv'.ownBlock=some b→ρ' b=8) (hx:W'.ownsRow E.N 3 1 xv' xs'.length (intsN xs')) (rx:∀b,xv'.ownBlock=some b→ρ' b=9)
  (hl:∀y∈L',Nd W (fun b=>b<E.N) y.v y.t.e∧PrM W ρ y.p y.t.loc∧ENk y.t.e):TqT E ρ' W' names calls' L' xs' tv' xv':=by
 have c':Chg (fun b=>b<W.heap.size∧S b) W W':=⟨c.os,c.tape,c.output,c.size,fun k hk hn=>c.block k hk (fun q=>hn ⟨hk,q⟩)⟩
 have hN:∀b,(b<W.heap.size∧S b)→¬b<E.N:=fun b q hb=>by have:=hS b q.1 q.2;have:=h.r0 b hb;omega
 obtain⟨G,g1,g2⟩:=h.f
 exact⟨hT,hk,hx,h.v.chg c' (fun q=>by have:=hS _ q.1 q.2;have:=h.rV;omega),⟨G,g1.chg c' (fun q=>by have:=hS _ q.1 q.2;have:=h.rF;omega),fun s=>(g2 s).chg c' hN⟩,
  fun y hy=>⟨(hl y hy).1.chg c' hN,(hl y hy).2.1.chg c' (fun b q=>by have:=hS b q.1 q.2;omega) e,(hl y hy).2.2⟩,
  (e _ h.lt).trans h.rT,(e _ h.v.lt).trans h.rV,(e _ g1.lt).trans h.rF,rk,rx,fun b q=>(e b (Nat.lt_of_lt_of_le q h.sz)).trans (h.r0 b q),eN,Nat.le_trans h.sz c.size⟩
theorem TqB.chg {E:Tqe}{ρ ρ':Nat→Nat}{W W':World}{ins:List Int}{vs:List Vl}{outs:List Int}{u1 u3 vv:Value}{S:Nat→Prop}(h:TqB E ρ W ins vs outs u1 u3 vv)(c:Chg S W W')
  (hS:∀b,b<W.heap.size→S b→ρ b≠1∧ρ b≠5∧ρ b≠6∧ρ b≠7) (e:∀b,b<W.heap.size→ρ' b=ρ b):TqB E ρ' W' ins vs outs u1 u3 vv:=by
 have c':Chg (fun b=>b<W.heap.size∧S b) W W':=⟨c.os,c.tape,c.output,c.size,fun k hk hn=>c.block k hk (fun q=>hn ⟨hk,q⟩)⟩
 exact⟨h.b.chg c' (fun q=>(hS _ q.1 q.2).1 h.rP) (fun b e q=>(hS b q.1 q.2).2.1 (h.rR b e)),own_chg h.i c' (fun b e q=>(hS b q.1 q.2).2.2.1 (h.ri b e)),own_chg h.o c' (fun b e q=>(hS b q.1 q.2).2.2.2 (h.ro b e)),
  (e _ h.b.lt).trans h.rP,fun b q=>(e b (own_blkV h.b.own q).2).trans (h.rR b q),fun b q=>(e b (own_blkV h.i q).2).trans (h.ri b q),fun b q=>(e b (own_blkV h.o q).2).trans (h.ro b q),h.e1,h.e3⟩
theorem Tq.keep {E:Tqe}{ρ:Nat→Nat}{W W':World}{st:LSt}{L:List TkV}{xs:List Nat}(h:Tq E ρ W st L xs)(k:Kept 0 0 W W'):Tq E ρ W' st L xs:=by
 obtain⟨u1,u3,vv,tv,xv,hB,hT⟩:=h
 exact⟨u1,u3,vv,tv,xv,hB.chg (k.chg (S:=fun _=>False)) (fun _ _ q=>q.elim) (fun _ _=>rfl),hT.chg (k.chg (S:=fun _=>False)) (fun _ _ q=>q.elim) (fun _ _=>rfl) (fun b hb=>hT.rN b (Nat.le_trans k.size hb))⟩
theorem Tq.priv {E:Tqe}{ρ:Nat→Nat}{W W':World}{st:LSt}{L:List TkV}{xs:List Nat}{G:Nat}(h:Tq E ρ W st L xs)(c:Chg (fun b=>b=G) W W')(hG:E.N≤G)(h0:ρ G=0):Tq E ρ W' st L xs:=by
 obtain⟨u1,u3,vv,tv,xv,hB,hT⟩:=h
 exact⟨u1,u3,vv,tv,xv,hB.chg c (fun b _ q=>by rw[q,h0];decide) (fun _ _=>rfl),hT.chgN c (fun b _ q=>by rw[q,h0];exact⟨hG,by decide⟩) (fun _ _=>rfl) (fun b hb=>hT.rN b (Nat.le_trans c.size hb))⟩
def colr (ρ:Nat→Nat)(r c:Nat):Nat→Nat:=fun b=>if b=r then c else ρ b
theorem colr_lt {ρ:Nat→Nat}{r c n:Nat}(h:n≤r):∀b,b<n→colr ρ r c b=ρ b:=fun b hb=>by unfold colr;rw[if_neg (by omega)]
theorem colr_same (ρ:Nat→Nat)(r c:Nat):colr ρ r c r=c:=by unfold colr;rw[if_pos rfl]
theorem Tq.built {E:Tqe}{ρ:Nat→Nat}{W W':World}{ins:List Int}{vs vs':List Vl}{outs:List Int}{names:List Bdg}{calls:Nat}{L:List TkV}{xs:List Nat}{u1 u3 vv vv' tv xv:Value}{R':Option Nat}
  (hB:TqB E ρ W ins vs outs u1 u3 vv) (hT:TqT E ρ W names calls L xs tv xv) (h:BS W' E.P u1 u3 vs' (cellsV vs') E.N R' vv') (s:Stp E.P vv.ownBlock W R' W'):
  ∃ρ',TqB E ρ' W' ins vs' outs u1 u3 vv'∧TqT E ρ' W' names calls L xs tv xv∧Sco ρ W ρ' W':=by
 have hc:∀b,(b=E.P∨vv.ownBlock=some b)→ρ b=1∨ρ b=5:=fun b q=>q.elim (fun e=>.inl (by rw[e];exact hB.rP)) (fun e=>.inr (hB.rR b e))
 have hrow:=h.row
 have fin:∀ρ',(∀b,b<W.heap.size→ρ' b=ρ b)→(∀b,W'.heap.size≤b→ρ' b=0)→(∀b,R'=some b→ρ' b=5)→TqB E ρ' W' ins vs' outs u1 u3 vv'∧TqT E ρ' W' names calls L xs tv xv∧Sco ρ W ρ' W':=fun ρ' e eN e5=>by
  refine⟨⟨by rw[hrow];exact h,own_chg hB.i s.chg (fun b e q=>by have:=hB.ri b e;have:=hc b q;omega),own_chg hB.o s.chg (fun b e q=>by have:=hB.ro b e;have:=hc b q;omega),(e _ hB.b.lt).trans hB.rP,fun b q=>e5 b (by rw[←hrow];exact q),fun b q=>(e b (own_blkV hB.i q).2).trans (hB.ri b q),fun b q=>(e b (own_blkV hB.o q).2).trans (hB.ro b q),hB.e1,hB.e3⟩,
   hT.chg s.chg (fun b _ q=>by have:=hc b q;omega) e eN,Sco.of s.chg (fun b _ q=>by have:=hc b q;omega) e⟩
 rcases s.row with e1|⟨r,e1,hr⟩
 ·exact⟨ρ,fin ρ (fun _ _=>rfl) (fun b hb=>hT.rN b (Nat.le_trans s.chg.size hb)) (fun b q=>hB.rR b (by rw[←e1];exact q))⟩
 ·have hr2:r<W'.heap.size:=(own_blkV h.own (by rw[hrow];exact e1)).2
  refine⟨colr ρ r 5,fin _ (colr_lt hr) (fun b hb=>?_) (fun b q=>?_)⟩
  ·unfold colr
   rw[if_neg (by omega)]
   exact hT.rN b (Nat.le_trans s.chg.size hb)
  ·rw[e1] at q
   cases q
   exact colr_same _ _ _
end Go.Proofs.YtgamjhpebmmjcaaGreatDoor
namespace Go.Proofs.YtgamjhpebmmjcaaGreatDoor
set_option maxRecDepth 100000
set_option maxHeartbeats 40000000
open Go.RowKit Flt
structure GR where
 ins:List Int
 vs:List Vl
 outs:List Int
 code:Int
 at_:Int
def grOf:Rs LSt→GR
 |.error (c,p)=>⟨[],[],[],c,(p:Nat)⟩
 |.ok st=>⟨st.ins,st.vs,st.outs,0,0⟩
def OG3 (W:World)(B:Nat)(a1:Option Addr)(a2:Option Addr)(a3:Option Addr)(J:GR):Prop:=
 ∀H,W.heap.size≤H→∃g1 g2 g3,OG W g1 g2 g3 a1 J.ins.length a2 J.vs.length a3 J.outs.length J.ins J.vs J.outs∧(B≤g1∧B≤g2∧B≤g3)∧((g1<W.heap.size∨H<g1)∧(g2<W.heap.size∨H<g2)∧(g3<W.heap.size∨H<g3))
def PJ (w:World)(J:GR)(e:Ending)(w':World):Prop:=
 (∃a1 c1 a2 c2 a3 c3,e=.returned (.tuple #[gagg a1 J.ins.length c1 a2 J.vs.length c2 a3 J.outs.length c3,.int .i64 J.code,.int .i64 J.at_])∧(∀v∈J.vs,v.k<18446744073709551616)∧OG3 w' w.heap.size a1 a2 a3 J)∧Kept 0 0 w w'
theorem own_iz {W:World}{B:Nat}{a:Option Addr}{c:Nat}{xs:List Int}(h:W.ownsRow B 3 1 (.slice a xs.length c) xs.length (xs.map (Value.int .i64)))(H:Nat)(j:Nat)(hB:B≤H):∃g,IZ W g a xs.length xs∧B≤g∧(g<W.heap.size∨H<g)∧((Value.slice a xs.length c).ownBlock=some g∨g=H+1+j):=by
 rcases own_io h rfl with h0|⟨g,e,hb,hio⟩
 ·exact⟨H+1+j,.inl h0,by omega,.inr (by omega),.inr rfl⟩
 ·subst e
  exact⟨g,.inr ⟨rfl,hio⟩,hb,.inl hio.lt,.inl rfl⟩
theorem own_vz {W:World}{B:Nat}{a:Option Addr}{c:Nat}{vs:List Vl}(h:W.ownsRow B 87 6 (.slice a vs.length c) vs.length (flat vs))(H:Nat)(j:Nat)(hB:B≤H):∃g,VZ W g a vs.length vs∧B≤g∧(g<W.heap.size∨H<g)∧((Value.slice a vs.length c).ownBlock=some g∨g=H+1+j):=by
 rcases Nat.eq_zero_or_pos vs.length with h0|h0
 ·exact⟨H+1+j,.inl h0,by omega,.inr (by omega),.inr rfl⟩
 ·obtain⟨g,c',e,_,hb,_,hA⟩:=row_at h h0 rfl
  injection e with e1 e2 e3
  subst e1
  exact⟨g,.inr ⟨rfl,hA⟩,(own_blkV h (k:=g) rfl).1,.inl hA.lt,.inl rfl⟩
theorem og3_of {W:World}{B:Nat}{a1 a2 a3:Option Addr}{c1 c2 c3:Nat}{J:GR}(hB:B≤W.heap.size)(o1:W.ownsRow B 3 1 (.slice a1 J.ins.length c1) J.ins.length (J.ins.map (Value.int .i64)))(o2:W.ownsRow B 87 6 (.slice a2 J.vs.length c2) J.vs.length (flat J.vs))(o3:W.ownsRow B 3 1 (.slice a3 J.outs.length c3) J.outs.length (J.outs.map (Value.int .i64)))
  (h12:Apart (.slice a1 J.ins.length c1) (.slice a2 J.vs.length c2)) (h13:Apart (.slice a1 J.ins.length c1) (.slice a3 J.outs.length c3)) (h23:Apart (.slice a2 J.vs.length c2) (.slice a3 J.outs.length c3)):OG3 W B a1 a2 a3 J:=by
 intro H hH
 obtain⟨g1,i1,b1,l1,e1⟩:=own_iz o1 H 0 (by omega)
 obtain⟨g2,i2,b2,l2,e2⟩:=own_vz o2 H 1 (by omega)
 obtain⟨g3,i3,b3,l3,e3⟩:=own_iz o3 H 2 (by omega)
 have q1:∀k,(Value.slice a1 J.ins.length c1).ownBlock=some k→k<W.heap.size:=fun k h=>(own_blkV o1 h).2
 have q2:∀k,(Value.slice a2 J.vs.length c2).ownBlock=some k→k<W.heap.size:=fun k h=>(own_blkV o2 h).2
 have q3:∀k,(Value.slice a3 J.outs.length c3).ownBlock=some k→k<W.heap.size:=fun k h=>(own_blkV o3 h).2
 refine⟨g1,g2,g3,⟨i1,i2,i3,fun e=>?_,fun e=>?_,fun e=>?_⟩,⟨b1,b2,b3⟩,l1,l2,l3⟩
 ·subst e
  rcases e1 with e1|e1<;>rcases e2 with e2|e2
  ·exact h12 _ e1 e2
  ·have:=q1 _ e1;omega
  ·have:=q2 _ e2;omega
  ·omega
 ·subst e
  rcases e1 with e1|e1<;>rcases e3 with e3|e3
  ·exact h13 _ e1 e3
  ·have:=q1 _ e1;omega
  ·have:=q3 _ e3;omega
  ·omega
 ·subst e
  rcases e2 with e2|e2<;>rcases e3 with e3|e3
  ·exact h23 _ e2 e3
  ·have:=q2 _ e2;omega
  ·have:=q3 _ e3;omega
  ·omega
def GLe (J:GR):Prop:=J.ins.length≤20∧J.vs.length≤2000∧J.outs.length≤50
theorem own_lowR {W:World}{T size n b b':Nat}{v:Value}{xs:List Value}(h:W.ownsRow b T size v n xs)(hb:b'≤b):W.ownsRow b' T size v n xs:=⟨h.1,h.2.imp id (fun⟨g,cap,cur,h1,h2,h3⟩=>⟨g,cap,cur,h1,Nat.le_trans hb h2,h3⟩)⟩
theorem go_pj {w w0:World}{r:Rs LSt}{st:LSt}{u1 vv u3:Value}{w':World}(hr:r=.ok st)(o1:w'.ownsRow w.heap.size 3 1 u1 st.ins.length (intsI st.ins))(o2:w'.ownsRow w.heap.size 87 6 vv st.vs.length (flat st.vs))(o3:w'.ownsRow w.heap.size 3 1 u3 st.outs.length (intsI st.outs))(hc:∃c:Nat→Nat,(∀b,u1.ownBlock=some b→c b=6)∧(∀b,vv.ownBlock=some b→c b=5)∧(∀b,u3.ownBlock=some b→c b=7))(g:Gd st)(hk:Kept 0 0 w0 w)(k:Kept 0 0 w w'):
  ∃a1 c1 a2 c2 a3 c3,u1=.slice a1 (grOf r).ins.length c1∧vv=.slice a2 (grOf r).vs.length c2∧u3=.slice a3 (grOf r).outs.length c3∧(∀v∈(grOf r).vs,v.k<18446744073709551616)∧OG3 w' w0.heap.size a1 a2 a3 (grOf r)∧GLe (grOf r):=by
 subst hr
 obtain⟨a1,c1,rfl⟩:=own_form o1
 obtain⟨a2,c2,rfl⟩:=own_form o2
 obtain⟨a3,c3,rfl⟩:=own_form o3
 obtain⟨c,k1,k2,k3⟩:=hc
 have hl:=hk.size
 have hl2:=k.size
 refine⟨a1,c1,a2,c2,a3,c3,rfl,rfl,rfl,g.k,og3_of (by omega) (own_lowR o1 hl) (own_lowR o2 hl) (own_lowR o3 hl) ?_ ?_ ?_,g.i,g.n,g.o⟩
 ·intro b e1 e2;have:=k1 b e1;have:=k2 b e2;omega
 ·intro b e1 e2;have:=k1 b e1;have:=k3 b e2;omega
 ·intro b e1 e2;have:=k2 b e1;have:=k3 b e2;omega
def GoP (w:World)(r:Rs LSt)(e:Ending)(w':World):Prop:=
 ((∃a1 c1 a2 c2 a3 c3,e=.returned (gagg a1 (grOf r).ins.length c1 a2 (grOf r).vs.length c2 a3 (grOf r).outs.length c3)∧(∀v∈(grOf r).vs,v.k<18446744073709551616)∧OG3 w' w.heap.size a1 a2 a3 (grOf r))∧((grOf r).code=0∧(grOf r).at_=0∧GLe (grOf r))∧Kept 0 0 w w')∨(∃(c:Int) (p:Nat),r=.error (c,p)∧e=Thr c (p:Nat)∧Kept 0 0 w w')
end Go.Proofs.YtgamjhpebmmjcaaGreatDoor
namespace Go.Proofs.YtgamjhpebmmjcaaGreatDoor
set_option maxRecDepth 100000
set_option maxHeartbeats 40000000
open Go.RowKit Flt
attribute [local go_sem] alloc_drewN setCell_drewN run_store_float fld0 fld1 fld2 mkF
abbrev psV (w:World)(c a:Value):World:=((w.alloc (gbox none 0 0 none 0 0 none 0 0)).alloc (.cells #[c] 3)).alloc (.cells #[a] 3)
abbrev psW (w:World):World:=psV w (.int .i64 0) (.int .i64 0)
theorem ps_start (w:World)(c a:Value):R3 (psV w c a) w.heap.size (w.heap.size+1) (w.heap.size+1+1) (.slice none 0 0) (.slice none 0 0) (.slice none 0 0) c a:=by
 have z1:(w.alloc (gbox none 0 0 none 0 0 none 0 0)).heap.size=w.heap.size+1:=by simp
 have z2:((w.alloc (gbox none 0 0 none 0 0 none 0 0)).alloc (.cells #[c] 3)).heap.size=w.heap.size+1+1:=by simp
 obtain⟨a1,a2,a3⟩:=box_at w (psV w c a) _ _ (((kept_alloc 0 0 _ _).trans (kept_alloc 0 0 _ _)).chg (S:=fun _=>False)) (fun c=>c)
 obtain⟨b1,b2,b3⟩:=box_at (w.alloc (gbox none 0 0 none 0 0 none 0 0)) (psV w c a) _ _ ((kept_alloc 0 0 _ _).chg (S:=fun _=>False)) (fun c=>c)
 obtain⟨c1,c2,c3⟩:=box_at ((w.alloc (gbox none 0 0 none 0 0 none 0 0)).alloc (.cells #[c] 3)) (psV w c a) _ _ ((Kept.refl 0 0 _).chg (S:=fun _=>False)) (fun c=>c)
 rw[z1] at b1 b2 b3
 rw[z2] at c1 c2 c3
 exact⟨a1 0,a1 1,a1 2,b1 0,c1 0,a2 0,a2 1,a2 2,b2 0,c2 0,a3,b3,c3⟩
theorem tl_len (t:List UInt8):0<(Tl t (allT t)).length∧(Tl t (allT t)).length≤t.length+1:=by
 have h1:=allT_len t
 unfold Tl
 rw[List.length_append,List.length_map]
 have h2:(clT t (allT t)).length≤1:=by unfold clT;split<;>simp
 refine⟨?_,by omega⟩
 cases h:allT t with
 |nil=>simp[clT]
 |cons k l=>simp;omega
theorem tl_text {t:List UInt8}(h:t.length≤4000):∀k∈Tl t (allT t),k.text.length≤4000:=by
 intro k hk
 unfold Tl at hk
 rcases List.mem_append.1 hk with c|c
 ·obtain⟨x,hx,rfl⟩:=List.mem_map.1 c
  have:=toks_len t _ x hx
  unfold cvT
  split
  ·simp
  ·simp only;omega
 ·unfold clT at c
  split at c
  ·cases c
  ·simp only[List.mem_singleton] at c;subst c;simp
theorem ps_form {W:World}{B:Nat}{v:Value}{t:List UInt8}(f:PkR W B v (scM t 0)):∃g cap,v=.slice (some ⟨g,0,none⟩) (Tl t (allT t)).length cap∧g<W.heap.size∧∀(j:Nat) (k:PTk),(Tl t (allT t))[j]? =some k→W.cell? ⟨g,j*3,none⟩=some (.int .i64 k.kind)∧W.cell? ⟨g,j*3+1,none⟩=some (strL k.text)∧W.cell? ⟨g,j*3+2,none⟩=some (.int .i64 (k.at_:Int)):=by
 have e:scM t 0=Tl t (allT t):=scan_all t
 rw[e] at f
 have hl:=(tl_len t).1
 rcases f.2 with⟨_,e2⟩|⟨g,cap,cur,rfl,_⟩
 ·omega
 ·obtain⟨_,h2,h3⟩:=pk_cells f
  exact⟨g,cap,rfl,h2,h3⟩
theorem OG3.far {S:Nat→Prop}{W W':World}{B B':Nat}{a1 a2 a3:Option Addr}{J:GR}(h:OG3 W B a1 a2 a3 J)(k:Chg S W W')(hS:∀b,S b→b<B)(hB:B'≤B):OG3 W' B' a1 a2 a3 J:=fun H hH=>by
 have z:=k.size
 obtain⟨g1,g2,g3,h1,h2,h3⟩:=h H (Nat.le_trans z hH)
 exact⟨g1,g2,g3,h1.keepC k (fun c=>by have:=hS _ c;omega) (fun c=>by have:=hS _ c;omega) (fun c=>by have:=hS _ c;omega),by omega,by omega⟩
end Go.Proofs.YtgamjhpebmmjcaaGreatDoor
namespace Go.Proofs.YtgamjhpebmmjcaaGreatDoor
set_option maxRecDepth 100000
set_option maxHeartbeats 40000000
open Go.RowKit Flt
def isN (tk:Tok):Prop:=tk.sym=sInt∨tk.sym=sDec
def LSt.zero:LSt:=⟨[],[],[],[],0⟩
theorem prog_step {f:Nat}{st:LSt}{s:Sm}{ss:List Sm}{r:Rs LSt}(h:progM f st (s::ss)=some r):∃r1,stmtM f st s=some r1∧(∀q,r1=.error q→r=.error q)∧(∀s1,r1=.ok s1→progM f s1 ss=some r):=by
 rw[progM] at h
 cases h1:stmtM f st s with
 |none=>rw[h1] at h;cases h
 |some r1=>
  rw[h1] at h
  refine⟨r1,rfl,fun q e=>?_,fun s1 e=>?_⟩
  ·subst e;cases h;rfl
  ·subst e;exact h
end Go.Proofs.YtgamjhpebmmjcaaGreatDoor
