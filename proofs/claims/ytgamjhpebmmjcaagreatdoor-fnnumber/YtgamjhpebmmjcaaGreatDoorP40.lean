import Derived.Test.YtgamjhpebmmjcaaGreatDoorP38
import Derived.Deep.RegionWith
import Derived.Test.YtgamjhpebmmjcaaGreatDoorP39
namespace Go.Proofs.YtgamjhpebmmjcaaGreatDoor
set_option maxRecDepth 100000
set_option maxHeartbeats 40000000
open Go.RowKit Flt
attribute [local go_sem] alloc_drewN setCell_drewN run_store_float fld0 fld1 fld2 mkF
theorem defStS {E:Pe}{w:World}{k:Tok}{us0:List Tok}(f:Ps E w (k::us0))(hk:k.sym=kDef):Calls Tryz.prog 95 #[.pointer (some ⟨E.P,0,none⟩)] w (Ot E w (k::us0) [k.sym,sName,[40],pPARAMS,[41],[61],pEXPR] (GSt w)):=by
 have HT:Hid _:=takeS f (by rw[hk];decide)
 have HPw:Hid (E.P<w.heap.size):=f.nw.1
 have HKs:Hid (k.sym=kDef):=hk
 have HW0:Hid (∀r,wrongM E.t.length (k::us0) ([k.sym,sName,[40],pPARAMS,[41],[61],pEXPR]++r)=wrongM E.t.length us0 ([sName,[40],pPARAMS,[41],[61],pEXPR]++r)):=fun r=>wrong_yes (by rw[hk];decide) rfl _
 clear f hk
 go_enter Tryz.func95,Tryz.ntmps95
 go_upto_region 2 with (go_at_call 96;refine Calls.mono HT.out ?_;rintro e w0 ⟨rfl,hT0,hC0⟩)
 have HC0:Hid (Ch E w w0):=hC0
 have HP0:Hid (Ps E w0 us0):=hT0
 clear hT0 hC0 HT
 have HD1:Hid _:=takeKindS HP0.out (kd:=2) (s:=sName) (.inl ⟨rfl,rfl⟩)
 go_upto_region 3 with (go_at_call 132;refine Calls.mono HD1.out ?_;rintro e v1 (⟨us1,ws1,vl1,rfl,hsp1,hw1,hT1,hC1,x1,hu1,hx1,rfl⟩|⟨p,rfl,hw1,hC1⟩);rotate_left;exact And.intro rfl (Ot.bad (ts:=k::us0) (st:=[k.sym,sName,[40],pPARAMS,[41],[61],pEXPR]) (ws:=us0) (st2:=[sName,[40],pPARAMS,[41],[61],pEXPR]) (fun r=>HW0.out r) HC0.out (fun r=>hw1.out ([[40],pPARAMS,[41],[61],pEXPR]++r)) hC1);replace hu1:Hid _:=hu1;replace hx1:Hid _:=hx1;unfold tkV)
 have ka1:=kept_alloc 0 0 v1 (.cells #[.int .i64 (cvT x1).kind,strL (cvT x1).text,.int .i64 ((cvT x1).at_:Int)] 106)
 have HW1:Hid (∀r,wrongM E.t.length (k::us0) ([k.sym,sName,[40],pPARAMS,[41],[61],pEXPR]++r)=wrongM E.t.length ws1 ([[40],pPARAMS,[41],[61],pEXPR]++r)):=fun r=>(HW0.out r).trans (hw1.out ([[40],pPARAMS,[41],[61],pEXPR]++r))
 have HS1:Hid (Ch E w0 (v1.alloc (.cells #[.int .i64 (cvT x1).kind,strL (cvT x1).text,.int .i64 ((cvT x1).at_:Int)] 106))):=hC1.andThen ka1.chg
 have HC1:Hid (Ch E w (v1.alloc (.cells #[.int .i64 (cvT x1).kind,strL (cvT x1).text,.int .i64 ((cvT x1).at_:Int)] 106))):=HC0.out.andThen HS1.out
 have HP1:Hid (Ps E (v1.alloc (.cells #[.int .i64 (cvT x1).kind,strL (cvT x1).text,.int .i64 ((cvT x1).at_:Int)] 106)) ws1):=hT1.keep ka1
 have HBxx1:Hid (TBx (v1.alloc (.cells #[.int .i64 (cvT x1).kind,strL (cvT x1).text,.int .i64 ((cvT x1).at_:Int)] 106)) v1.heap.size x1):=TBx.new v1 x1
 have HBlx1:Hid (w.heap.size≤v1.heap.size):=(HC0.out.andThen hC1).size
 clear hT1 hC1 hw1 HD1 ka1
 generalize (v1.alloc (.cells #[.int .i64 (cvT x1).kind,strL (cvT x1).text,.int .i64 ((cvT x1).at_:Int)] 106))=w1 at*
 generalize v1.heap.size=b1 at*
 have HD2:Hid _:=listedT HP1.out
 go_upto_region 4 with (go_at_call 133;refine Calls.mono HD2.out ?_;rintro e v2 (⟨us2,ws2,vl2,rfl,hsp2,hw2,hT2,hC2,ps,hR,hU⟩|⟨p,rfl,hw2,hC2⟩);rotate_left;exact And.intro rfl (Ot.bad (ts:=k::us0) (st:=[k.sym,sName,[40],pPARAMS,[41],[61],pEXPR]) (ws:=ws1) (st2:=[[40],pPARAMS,[41],[61],pEXPR]) (fun r=>HW1.out r) HC1.out (fun r=>hw2.out ([[61],pEXPR]++r)) hC2);obtain⟨aP,cP,rfl⟩:=hR.form)
 have HW2:Hid (∀r,wrongM E.t.length (k::us0) ([k.sym,sName,[40],pPARAMS,[41],[61],pEXPR]++r)=wrongM E.t.length ws2 ([[61],pEXPR]++r)):=fun r=>(HW1.out r).trans (hw2.out ([[61],pEXPR]++r))
 have HS2:Hid (Ch E w1 v2):=hC2
 have HC2:Hid (Ch E w v2):=HC1.out.andThen HS2.out
 have HP2:Hid (Ps E v2 ws2):=hT2
 replace HBxx1:Hid (TBx v2 b1 x1):=HBxx1.out.ch HS2.out (Nat.lt_of_lt_of_le HPw.out HBlx1.out)
 have HR:Hid (PkR v2 w.heap.size (.slice aP (ps.map cvT).length cP) (ps.map cvT)):=pk_le hR HC1.out.size
 have HU:Hid _:=hU
 clear hT2 hC2 hw2 HD2 hR hU
 have HD3:Hid _:=takeMarkS HP2.out (s:=[61]) (by decide)
 go_upto_region 5 with (go_at_call 99;refine Calls.mono HD3.out ?_;rintro e v3 (⟨us3,ws3,vl3,rfl,hsp3,hw3,hT3,hC3,x3,hu3,hx3,rfl⟩|⟨p,rfl,hw3,hC3⟩);rotate_left;exact And.intro rfl (Ot.bad (ts:=k::us0) (st:=[k.sym,sName,[40],pPARAMS,[41],[61],pEXPR]) (ws:=ws2) (st2:=[[61],pEXPR]) (fun r=>HW2.out r) HC2.out (fun r=>hw3.out ([pEXPR]++r)) hC3);replace hu3:Hid _:=hu3;replace hx3:Hid _:=hx3;unfold tkV)
 have HW3:Hid (∀r,wrongM E.t.length (k::us0) ([k.sym,sName,[40],pPARAMS,[41],[61],pEXPR]++r)=wrongM E.t.length ws3 ([pEXPR]++r)):=fun r=>(HW2.out r).trans (hw3.out ([pEXPR]++r))
 have HS3:Hid (Ch E v2 v3):=hC3
 have HC3:Hid (Ch E w v3):=HC2.out.andThen HS3.out
 have HP3:Hid (Ps E v3 ws3):=hT3
 replace HBxx1:Hid (TBx v3 b1 x1):=HBxx1.out.ch HS3.out (Nat.lt_of_lt_of_le HPw.out HBlx1.out)
 replace HR:Hid (PkR v3 w.heap.size (.slice aP (ps.map cvT).length cP) (ps.map cvT)):=pk_ch HR.out HS3.out HPw.out
 clear hT3 hC3 hw3 HD3
 have sx10:=HBxx1.out.c0
 have sx11:=HBxx1.out.c1
 have sx12:=HBxx1.out.c2
 have sx13:=HBxx1.out.lt
 have HBb:Hid (∀w9,Ch E v3 w9→TBx w9 b1 x1):=fun w9 c=>HBxx1.out.ch c (Nat.lt_of_lt_of_le HPw.out HBlx1.out)
 go_region_with (go_at_call 97;refine Calls.mono (expr_all (HP3.out.keep (kept_drew _))) ?_;rintro e w9 (⟨us9,ws9,v9,rfl,hsp9,hw9,hT9,hC9,e9,hp9,hn9⟩|⟨p,rfl,hw9,hC9⟩);rotate_left;exact And.intro rfl (Ot.bad (ts:=k::us0) (st:=[k.sym,sName,[40],pPARAMS,[41],[61],pEXPR]) (ws:=ws3) (st2:=[pEXPR]) (fun r=>HW3.out r) (HC3.out.andThen (kept_drew _).chg) (fun r=>hw9.out r) hC9);obtain zx1:=HBb.out w9 ((kept_drew _).chg.andThen hC9);have qx10:=zx1.c0;have qx11:=zx1.c1;have qx12:=zx1.c2;have qx13:=zx1.lt;obtain⟨T9,y9,rfl⟩:=hn9.iface)
 all_goals
  have hC9':Ch E w w9:=(HC3.out.andThen (kept_drew _).chg).andThen hC9
  go_wp2
  refine bodyPost_ret (v:=.iface 232 (.agg #[.int .i64 (cvT x1).kind,strL (cvT x1).text,.int .i64 ((cvT x1).at_:Int),.slice aP (ps.map cvT).length cP,.iface T9 y9])) (by simp[results,Tryz.results95,go_sem]) rfl ?_
  have HR9:=pk_ch HR.out ((kept_drew _).chg.andThen hC9) HPw.out
  rcases HU.out with⟨rfl,l,r,hu,hl,hr⟩|⟨l,r,t1,hu,hl,hp,hr⟩
  ·exact .inl ⟨k::x1::l::r::x3::us9,ws9,_,rfl,by show _=_;rw[hsp1.out,hu1.out,hsp2.out,hu,hsp3.out,hu3.out,hsp9.out];simp,fun r=>(HW3.out r).trans (hw9.out r),hT9,hC9',_,.def0 HKs.out hx1.out hl hr hx3.out hp9,.defS HR9.zero (fun b e=>(own_blkV HR9 e).1) (hn9.fr (HC3.out.size))⟩
  ·exact .inl ⟨k::x1::l::(t1++r::x3::us9),ws9,_,rfl,by show _=_;rw[hsp1.out,hu1.out,hsp2.out,hu,hsp3.out,hu3.out,hsp9.out];simp,fun r=>(HW3.out r).trans (hw9.out r),hT9,hC9',_,.defS HKs.out hx1.out hl hp hr hx3.out hp9,.defS HR9.zero (fun b e=>(own_blkV HR9 e).1) (hn9.fr (HC3.out.size))⟩
end Go.Proofs.YtgamjhpebmmjcaaGreatDoor
namespace Go.Proofs.YtgamjhpebmmjcaaGreatDoor
set_option maxRecDepth 100000
set_option maxHeartbeats 40000000
open Go.RowKit Flt
attribute [local go_sem] alloc_drewN setCell_drewN run_store_float fld0 fld1 fld2 mkF
theorem Sd.chg {W W':World}{M:Nat→Prop}{v:Value}{s:Sm}{S:Nat→Prop}(f:Sd W M v s)(c:Chg S W W')(hS:∀b,S b→¬M b):Sd W' M v s:=by
 cases f with
 |inS=>exact .inS
 |letS h=>exact .letS (h.chg c hS)
 |rep h=>exact .rep (h.chg c hS)
 |defS h h2 h3=>
  refine .defS ⟨h.1,h.2.imp id ?_⟩ h2 (h3.chg c hS)
  rintro⟨g,cap,cur,e1,b1,b2,b3⟩
  refine⟨g,cap,cur,e1,b1,?_,b3⟩
  have hg:g<W.heap.size:=by
   rcases Nat.lt_or_ge g W.heap.size with c|c
   ·exact c
   ·rw[Array.getElem?_eq_none c] at b2;cases b2
  rw[c.block g hg (fun h=>hS g h (h2 g (by rw[e1];rfl)))]
  exact b2
 |outS h=>exact .outS (h.chg c hS)
theorem Sd.mono {W:World}{M M':Nat→Prop}{v:Value}{s:Sm}(f:Sd W M v s)(h:∀b,M b→M' b):Sd W M' v s:=by
 cases f with
 |inS=>exact .inS
 |letS q=>exact .letS (q.mono h)
 |rep q=>exact .rep (q.mono h)
 |defS q q2 q3=>exact .defS q (fun b e=>h b (q2 b e)) (q3.mono h)
 |outS q=>exact .outS (q.mono h)
theorem Sd.iface {W:World}{M:Nat→Prop}{v:Value}{s:Sm}(f:Sd W M v s):∃T x,v=.iface T x:=by cases f<;>exact⟨_,_,rfl⟩
theorem Sd.ch {E:Pe}{W W':World}{v:Value}{s:Sm}{n:Nat}(f:Sd W (Fr n) v s)(c:Ch E W W')(h:E.P<n):Sd W' (Fr n) v s:=f.chg c (fun b e q=>by have q:n≤b:=q;omega)
theorem stmts_rule {n:Nat}{ts:List Tok}(r:List (List UInt8)):wrongM n ts (pSTMTS::r)=wrongM n ts (ruleM pSTMTS (hdS ts)++r):=wrong_part (by decide) ts
def GS2 (w:World)(us:List Tok)(v:Value)(w':World):Prop:=∃s us1 c,us=us1++[c]∧PSm s us1∧c.sym=[59]∧Sd w' (Fr w.heap.size) v s
theorem stmt_one {E:Pe}{w:World}{k:Tok}{us0:List Tok}(f:Ps E w (k::us0)){K:List UInt8}(hk:k.sym=K){fn:FuncId}{st:List (List UInt8)}(hc:(K=kIn∧fn=92)∨(K=kLet∧fn=93)∨(K=kRep∧fn=94)∨(K=kDef∧fn=95))(hS:∀W,Kept 0 0 w W→Calls Tryz.prog fn #[.pointer (some ⟨E.P,0,none⟩)] W (Ot E W (k::us0) st (GSt W)))(hr:ruleM pSTMTS K=st++[[59],pSTMTS]):Calls Tryz.prog 58 #[.pointer (some ⟨E.P,0,none⟩)] w fun e w'=>
  (∃us ws v,e=.returned v∧Hid (k::us0=us++ws)∧Hid (∀r,wrongM E.t.length (k::us0) (pSTMTS::r)=wrongM E.t.length ws (pSTMTS::r))∧Ps E w' ws∧Ch E w w'∧GS2 w us v w')∨(∃p:Nat,e=Thr 2 p∧Hid (∀r,wrongM E.t.length (k::us0) (pSTMTS::r)=(p:Int))∧Ch E w w'):=by
 have hcl:∀x∈(k::us0),TkC x:=by obtain⟨i,h⟩:=f;exact h.cl
 have htx:(cvT k).text=K:=(hd_text (n:=E.t.length) hcl (by rcases hc with⟨h,_⟩|⟨h,_⟩|⟨h,_⟩|⟨h,_⟩<;>(rw[h];decide))).2 hk
 have HPk:Hid (Calls Tryz.prog 57 #[.pointer (some ⟨E.P,0,none⟩)] w fun e w'=>e=.returned (.agg #[.int .i64 (cvT k).kind,strL (cvT k).text,.int .i64 ((cvT k).at_:Int)])∧Kept 0 0 w w'):=peekS f
 rw[htx] at HPk
 have HPw:Hid (E.P<w.heap.size):=f.nw.1
 have HW:Hid (∀r,wrongM E.t.length (k::us0) (pSTMTS::r)=wrongM E.t.length (k::us0) (st++([59]::pSTMTS::r))):=fun r=>by
  rw[stmts_rule,show hdS (k::us0)=K from hk,hr,List.append_assoc]
  rfl
 have HSt:Hid _:=hS
 clear hcl htx f hk hr hS
 rcases hc with⟨rfl,rfl⟩|⟨rfl,rfl⟩|⟨rfl,rfl⟩|⟨rfl,rfl⟩
 all_goals
  go_enter Tryz.func58,Tryz.ntmps58
  go_upto_region 14 with (first|(go_at_call 57;refine Calls.mono HPk.out ?_;rintro e w2 ⟨rfl,k2⟩)|((first|go_at_call 92|go_at_call 93|go_at_call 94|go_at_call 95);refine Calls.mono (HSt.out _ k2) ?_;rintro e w3 (⟨us3,ws3,v3,rfl,hsp3,hw3,hT3,hC3,s3,hp3,hs3⟩|⟨p,rfl,hw3,hC3⟩);rotate_left;exact And.intro rfl (Or.inr ⟨p,rfl,fun r=>(HW.out r).trans (hw3.out _),k2.chg.andThen hC3⟩)))
  have HM:Hid _:=takeMarkS hT3 (s:=[59]) (by decide)
  have HC3:Hid (Ch E w w3):=k2.chg.andThen hC3
  have HS3:Hid (Sd w3 (Fr w.heap.size) v3 s3):=hs3.mono (fun _ q=>Nat.le_trans k2.size q)
  have HW3:Hid (∀r,wrongM E.t.length (k::us0) (pSTMTS::r)=wrongM E.t.length ws3 ([59]::pSTMTS::r)):=fun r=>(HW.out r).trans (hw3.out _)
  clear HPk HW hT3 hw3 hC3 k2 hs3 HSt
  go_wp2_with (go_at_call 99;refine Calls.mono HM.out ?_;rintro e w9 (⟨us9,ws9,v9,rfl,hsp9,hw9,hT9,hC9,r9,rfl,hr9,rfl⟩|⟨p,rfl,hw9,hC9⟩);rotate_left;exact And.intro rfl (Or.inr ⟨p,rfl,fun r=>(HW3.out r).trans (hw9.out (pSTMTS::r)),HC3.out.andThen hC9⟩))
  go_ret
  exact .inl ⟨us3++[r9],ws9,_,rfl,by show _=_;rw[hsp3.out,hsp9.out];simp,fun r=>(HW3.out r).trans (hw9.out (pSTMTS::r)),hT9,HC3.out.andThen hC9,s3,us3,r9,rfl,hp3,hr9,HS3.out.ch hC9 HPw.out⟩
end Go.Proofs.YtgamjhpebmmjcaaGreatDoor
namespace Go.Proofs.YtgamjhpebmmjcaaGreatDoor
set_option maxRecDepth 100000
set_option maxHeartbeats 40000000
open Go.RowKit Flt
attribute [local go_sem] alloc_drewN setCell_drewN run_store_float fld0 fld1 fld2 mkF
def StE (E:Pe)(w:World)(ts:List Tok)(e:Ending)(w':World):Prop:=
 (∃us ws v,e=.returned v∧Hid (ts=us++ws)∧Hid (wrongM E.t.length ts [pSTMTS]=wrongM E.t.length ws [pSTMTS])∧Ps E w' ws∧Ch E w w'∧GS2 w us v w')∨(∃p:Nat,e=Thr 2 p∧Hid (wrongM E.t.length ts [pSTMTS]=(p:Int))∧Ch E w w')
theorem stmt_outS {E:Pe}{w:World}{k:Tok}{us0:List Tok}(f:Ps E w (k::us0))(hk:k.sym=kOut):Calls Tryz.prog 58 #[.pointer (some ⟨E.P,0,none⟩)] w (StE E w (k::us0)):=by
 have hcl:∀x∈(k::us0),TkC x:=by obtain⟨i,h⟩:=f;exact h.cl
 have htx:(cvT k).text=kOut:=(hd_text (n:=E.t.length) hcl (by decide)).2 hk
 have HPk:Hid (Calls Tryz.prog 57 #[.pointer (some ⟨E.P,0,none⟩)] w fun e w'=>e=.returned (.agg #[.int .i64 (cvT k).kind,strL (cvT k).text,.int .i64 ((cvT k).at_:Int)])∧Kept 0 0 w w'):=peekS f
 rw[htx] at HPk
 have HPw:Hid (E.P<w.heap.size):=f.nw.1
 have HW:Hid (wrongM E.t.length (k::us0) [pSTMTS]=wrongM E.t.length us0 [pEXPR,[59],pSTMTS]):=by
  show _=_
  rw[stmts_rule,show hdS (k::us0)=kOut from hk]
  exact wrong_yes (by decide) hk [pEXPR,[59],pSTMTS]
 have HT:Hid (∀W,Kept 0 0 w W→_):=fun W kk=>takeS (f.keep kk) (by rw[hk];decide)
 have HKs:Hid (k.sym=kOut):=hk
 clear hcl htx f hk
 go_enter Tryz.func58,Tryz.ntmps58
 go_upto_region 14 with (first|(go_at_call 57;refine Calls.mono HPk.out ?_;rintro e w2 ⟨rfl,k2⟩)|(go_at_call 96;refine Calls.mono (HT.out _ k2) ?_;rintro e w3 ⟨rfl,hT3,hC3⟩;unfold tkV)|(go_at_call 97;refine Calls.mono (expr_all hT3) ?_;rintro e w4 (⟨us4,ws4,v4,rfl,hsp4,hw4,hT4,hC4,e4,hp4,hn4⟩|⟨p,rfl,hw4,hC4⟩);rotate_left;exact And.intro rfl (Or.inr ⟨p,rfl,HW.out.trans (hw4.out [[59],pSTMTS]),(k2.chg.andThen hC3).andThen hC4⟩);obtain⟨T4,y4,rfl⟩:=hn4.iface))
 have HM:Hid _:=takeMarkS hT4 (s:=[59]) (by decide)
 have HC4:Hid (Ch E w w4):=(k2.chg.andThen hC3).andThen hC4
 have HS4:Hid (Sd w4 (Fr w.heap.size) (.iface 170 (.agg #[.int .i64 (cvT k).kind,strL (cvT k).text,.int .i64 ((cvT k).at_:Int),.iface T4 y4])) (.outS k e4)):=.outS (hn4.fr (Nat.le_trans k2.size hC3.size))
 have HW4:Hid (wrongM E.t.length (k::us0) [pSTMTS]=wrongM E.t.length ws4 [[59],pSTMTS]):=HW.out.trans (hw4.out [[59],pSTMTS])
 have HP4:Hid (Pr 2 [e4] us4):=hp4
 clear HPk HW hT3 hT4 hw4 hC3 hC4 k2 hn4 HT hp4
 go_wp2_with (go_at_call 99;refine Calls.mono HM.out ?_;rintro e w9 (⟨us9,ws9,v9,rfl,hsp9,hw9,hT9,hC9,r9,rfl,hr9,rfl⟩|⟨p,rfl,hw9,hC9⟩);rotate_left;exact And.intro rfl (Or.inr ⟨p,rfl,HW4.out.trans (hw9.out [pSTMTS]),HC4.out.andThen hC9⟩))
 go_ret
 exact .inl ⟨(k::us4)++[r9],ws9,_,rfl,by show _=_;rw[hsp4.out,hsp9.out];simp,HW4.out.trans (hw9.out [pSTMTS]),hT9,HC4.out.andThen hC9,_,k::us4,r9,rfl,.outS HKs.out HP4.out,hr9,HS4.out.ch hC9 HPw.out⟩
theorem stmt_badS {E:Pe}{w:World}{k:Tok}{us0:List Tok}(f:Ps E w (k::us0))(h:k.sym≠kIn∧k.sym≠kLet∧k.sym≠kRep∧k.sym≠kDef∧k.sym≠kOut):Calls Tryz.prog 58 #[.pointer (some ⟨E.P,0,none⟩)] w (StE E w (k::us0)):=by
 have hcl:∀x∈(k::us0),TkC x:=by obtain⟨i,h⟩:=f;exact h.cl
 have tx:∀x∈specL,k.sym≠x→((cvT k).text==x)=false:=fun x hx hn=>beq_false_of_ne (fun e=>hn ((hd_text (n:=E.t.length) hcl hx).1 e))
 have t1:((cvT k).text==[105,110])=false:=tx _ (by decide) h.1
 have t2:((cvT k).text==[108,101,116])=false:=tx _ (by decide) h.2.1
 have t3:((cvT k).text==[114,101,112,101,97,116])=false:=tx _ (by decide) h.2.2.1
 have t4:((cvT k).text==[100,101,102])=false:=tx _ (by decide) h.2.2.2.1
 have t5:((cvT k).text==[111,117,116])=false:=tx _ (by decide) h.2.2.2.2
 have HPk:Hid (Calls Tryz.prog 57 #[.pointer (some ⟨E.P,0,none⟩)] w fun e w'=>e=.returned (.agg #[.int .i64 (cvT k).kind,strL (cvT k).text,.int .i64 ((cvT k).at_:Int)])∧Kept 0 0 w w'):=peekS f
 have HR:Hid (∀W,Kept 0 0 w W→_):=fun W kk=>refuseS (f.keep kk)
 have HW:Hid (wrongM E.t.length (k::us0) [pSTMTS]=(posM E.t.length (k::us0):Int)):=by
  show _=_
  rw[stmts_rule]
  have er:ruleM pSTMTS (hdS (k::us0))=[]:=by
   show ruleM pSTMTS k.sym=_
   unfold ruleM
   rw[if_pos rfl,if_neg (show ¬k.sym=[105,110] from h.1),if_neg (show ¬k.sym=[108,101,116] from h.2.1),if_neg (show ¬k.sym=[114,101,112,101,97,116] from h.2.2.1),if_neg (show ¬k.sym=[100,101,102] from h.2.2.2.1),if_neg (show ¬k.sym=[111,117,116] from h.2.2.2.2)]
  rw[er,List.nil_append,wrongM,settle_nil]
  rfl
 clear hcl tx f h
 generalize cvT k=kv at*
 go_enter Tryz.func58,Tryz.ntmps58
 go_wp2_with (first|(go_at_call 57;refine Calls.mono HPk.out ?_;rintro e w2 ⟨rfl,k2⟩)|(go_at_call 98;refine Calls.mono (HR.out _ k2) ?_;rintro e w3 ⟨rfl,k3⟩))
 exact⟨rfl,.inr ⟨_,rfl,HW.out,(k2.trans k3).chg⟩⟩
theorem statementS {E:Pe}{w:World}{k:Tok}{us0:List Tok}(f:Ps E w (k::us0)):Calls Tryz.prog 58 #[.pointer (some ⟨E.P,0,none⟩)] w (StE E w (k::us0)):=by
 have up:∀{e:Ending} {w':World},((∃us ws v,e=.returned v∧Hid (k::us0=us++ws)∧Hid (∀r,wrongM E.t.length (k::us0) (pSTMTS::r)=wrongM E.t.length ws (pSTMTS::r))∧Ps E w' ws∧Ch E w w'∧GS2 w us v w')∨(∃p:Nat,e=Thr 2 p∧Hid (∀r,wrongM E.t.length (k::us0) (pSTMTS::r)=(p:Int))∧Ch E w w'))→StE E w (k::us0) e w':=by
  rintro e w' (⟨us,ws,v,h1,h2,h3,h4⟩|⟨p,h1,h2,h3⟩)
  ·exact .inl ⟨us,ws,v,h1,h2,h3.out [],h4⟩
  ·exact .inr ⟨p,h1,h2.out [],h3⟩
 by_cases h1:k.sym=kIn
 ·exact(stmt_one f h1 (.inl ⟨rfl,rfl⟩) (fun W kk=>inStS (f.keep kk) h1) (by rw[h1];rfl)).mono (fun e w' h=>up h)
 by_cases h2:k.sym=kLet
 ·exact(stmt_one f h2 (.inr (.inl ⟨rfl,rfl⟩)) (fun W kk=>letStS (f.keep kk) h2) (by rw[h2];rfl)).mono (fun e w' h=>up h)
 by_cases h3:k.sym=kRep
 ·exact(stmt_one f h3 (.inr (.inr (.inl ⟨rfl,rfl⟩))) (fun W kk=>repStS (f.keep kk) h3) (by rw[h3];rfl)).mono (fun e w' h=>up h)
 by_cases h4:k.sym=kDef
 ·exact(stmt_one f h4 (.inr (.inr (.inr ⟨rfl,rfl⟩))) (fun W kk=>defStS (f.keep kk) h4) (by rw[h4];rfl)).mono (fun e w' h=>up h)
 by_cases h5:k.sym=kOut
 ·exact stmt_outS f h5
 exact stmt_badS f ⟨h1,h2,h3,h4,h5⟩
end Go.Proofs.YtgamjhpebmmjcaaGreatDoor
namespace Go.Proofs.YtgamjhpebmmjcaaGreatDoor
set_option maxRecDepth 100000
set_option maxHeartbeats 40000000
open Go.RowKit Flt
attribute [local go_sem] alloc_drewN setCell_drewN run_store_float fld0 fld1 fld2 mkF
theorem infoSt:(Tryz.prog.info? 112).map (fun i=>(i.zero,i.size,i.bytes))=some (some .nilIface,1,16):=by kernel_rfl
theorem infoSt_parts:∃i0,Tryz.prog.info? 112=some i0∧i0.zero=some .nilIface∧i0.size=1∧i0.bytes=16:=by
 have h:=infoSt
 cases e:Tryz.prog.info? 112 with
 |none=>rw[e] at h;cases h
 |some i0=>
  rw[e] at h
  simp only[Option.map_some,Option.some.injEq,Prod.mk.injEq] at h
  exact⟨i0,rfl,h.1,h.2.1,h.2.2⟩
theorem wpList_appendSt (w:World){ops:Array Oper}{rest:List Oper}{o:Oper}{a:Act}{Q:Exit→Act→World→Prop}(hgd:o.guard=none)(s x:Operand)
  (ho:o.op=.call {callee:=.builtin .append,args:=#[s,x],argTypes:=#[74,74]})
  (v:Value) (vs:List Value) (hs:a.eval s=v) (hown:w.ownsRow 0 112 1 v vs.length vs)
  (ab:Nat) (T:TypeId) (y:Value) (hx:a.eval x=.slice (some ⟨ab,0,none⟩) 1 1) (hnews:w.cell? ⟨ab,0,none⟩=some (.iface T y))
  (h63:vs.length+1≤1000000)
  (h:∀g cap n w',n=(vs++[Value.iface T y]).length→w'.ownsRow 0 112 1 (.slice (some ⟨g,0,none⟩) n cap) n (vs++[Value.iface T y])→Chg (fun b=>v.ownBlock=some b) w w'→(v.ownBlock=some g∨g=w.heap.size)→wpList Tryz.prog ops Q rest (a.put o.dst (.slice (some ⟨g,0,none⟩) n cap)) w'):wpList Tryz.prog ops Q (o::rest) a w:=by
 obtain⟨i0,hi,hz0,hz1,hz2⟩:=infoSt_parts
 refine wpList_append_lies w hgd s x 74 ho 0 112 i0 .nilIface 1 16 Tryz.underlying74 hi hz0 hz1 hz2 rfl (by decide) v vs.length _ hs hown ⟨ab,0,none⟩ 1 1 [.iface T y] hx rfl ?_ ?_ (by decide) (by unfold maxLen;omega) (by omega) (Nat.zero_le _) _ rfl ?_
 ·intro j u hj
  match j,hj with
  |0,hj=>cases hj;rw[add_addr,Nat.add_zero];exact hnews
 ·intro u hu
  simp at hu
  rcases hu with rfl;rfl
 ·intro g cap w' h1 h2 h3 _
  have e:vs.length+1=(vs++[Value.iface T y]).length:=by rw[List.length_append];rfl
  rw[e] at h1 ⊢
  exact h g cap _ w' rfl h1 (chg_grow h2) h3
def SdL (W:World)(M:Nat→Prop)(vs:List Value)(ss:List Sm):Prop:=vs.length=ss.length∧∀(j:Nat) (v:Value) (s:Sm),vs[j]? =some v→ss[j]? =some s→Sd W M v s
theorem SdL.snoc {W:World}{M:Nat→Prop}{vs:List Value}{ss:List Sm}{v:Value}{s:Sm}(f:SdL W M vs ss)(h:Sd W M v s):SdL W M (vs++[v]) (ss++[s]):=by
 refine⟨by simp[f.1],fun j u x hu hx=>?_⟩
 rcases Nat.lt_or_ge j vs.length with c|c
 ·rw[List.getElem?_append_left c] at hu
  rw[List.getElem?_append_left (by rw[←f.1];exact c)] at hx
  exact f.2 j u x hu hx
 ·rw[List.getElem?_append_right c] at hu
  rw[List.getElem?_append_right (by rw[←f.1];exact c),←f.1] at hx
  generalize j-vs.length=q at hu hx
  match q,hu,hx with
  |0,hu,hx=>cases hu;cases hx;exact h
def NoRw2 (W:World)(b:Nat):Prop:=NoRow W b∧∀cur f,W.heap[b]?≠some (.cells cur 106 f)
theorem Sd.oth {W W':World}{M:Nat→Prop}{v:Value}{s:Sm}{S:Nat→Prop}(f:Sd W M v s)(c:Chg S W W')(hS:∀b,S b→NoRw2 W b):Sd W' M v s:=by
 have hS1:∀b,S b→NoRow W b:=fun b h=>(hS b h).1
 cases f with
 |inS=>exact .inS
 |letS h=>exact .letS (h.oth c hS1)
 |rep h=>exact .rep (h.oth c hS1)
 |defS h h2 h3=>
  refine .defS ⟨h.1,h.2.imp id ?_⟩ h2 (h3.oth c hS1)
  rintro⟨g,cap,cur,e1,b1,b2,b3⟩
  refine⟨g,cap,cur,e1,b1,?_,b3⟩
  have hg:g<W.heap.size:=by
   rcases Nat.lt_or_ge g W.heap.size with c|c
   ·exact c
   ·rw[Array.getElem?_eq_none c] at b2;cases b2
  rw[c.block g hg (fun h=>(hS g h).2 cur (0,0) b2)]
  exact b2
 |outS h=>exact .outS (h.oth c hS1)
theorem SdL.oth {W W':World}{M:Nat→Prop}{vs:List Value}{ss:List Sm}{S:Nat→Prop}(f:SdL W M vs ss)(c:Chg S W W')(hS:∀b,S b→NoRw2 W b):SdL W' M vs ss:=⟨f.1,fun j v s h1 h2=>(f.2 j v s h1 h2).oth c hS⟩
theorem SdL.ch {E:Pe}{W W':World}{vs:List Value}{ss:List Sm}{n:Nat}(f:SdL W (Fr n) vs ss)(c:Ch E W W')(h:E.P<n):SdL W' (Fr n) vs ss:=⟨f.1,fun j v s h1 h2=>(f.2 j v s h1 h2).ch c h⟩
theorem st_own {W:World}{sl:Value}{n:Nat}{vs:List Value}(f:W.ownsRow 0 112 1 sl n vs):∀b,sl.ownBlock=some b→NoRw2 W b:=by
 intro b e
 rcases f.2 with⟨h,_⟩|⟨g,cap,cur,h1,_,h2,_⟩
 ·rw[h] at e;cases e
 ·rw[h1] at e
  have e2:g=b:=by injection e
  subst e2
  constructor
  ·intro cur2 f2 h3;rw[h2] at h3;simp at h3
  ·intro cur2 f2 h3;rw[h2] at h3;simp at h3
theorem st_keep {W W':World}{sl:Value}{n:Nat}{vs:List Value}{S:Nat→Prop}(f:W.ownsRow 0 112 1 sl n vs)(c:Chg S W W')(hS:∀b,sl.ownBlock=some b→¬S b):W'.ownsRow 0 112 1 sl n vs:=by
 refine⟨f.1,f.2.imp id ?_⟩
 rintro⟨g,cap,cur,e1,b1,b2,b3⟩
 refine⟨g,cap,cur,e1,b1,?_,b3⟩
 have hg:g<W.heap.size:=by
  rcases Nat.lt_or_ge g W.heap.size with c|c
  ·exact c
  ·rw[Array.getElem?_eq_none c] at b2;cases b2
 rw[c.block g hg (hS g (by rw[e1];rfl))]
 exact b2
theorem pg_snoc {ss:List Sm}{us:List Tok}(h:PGm ss us){s:Sm}{us1:List Tok}{c:Tok}(hs:PSm s us1)(hc:c.sym=[59]):PGm (ss++[s]) (us++(us1++[c])):=by
 induction h with
 |nil=>exact .cons hs hc .nil
 |@cons s0 ss0 ts0 us0 c0 h1 h2 _ ih=>
  have:=PGm.cons h1 h2 ih
  simpa using this
theorem pg_len {ss:List Sm}{us:List Tok}(h:PGm ss us):ss.length≤us.length:=by
 induction h with
 |nil=>simp
 |cons _ _ _ ih=>simp;omega
theorem stmts_end (n:Nat):wrongM n [] [pSTMTS]=-1:=by
 rw[wrongM,settle_part (by decide),show ruleM pSTMTS sEnd++[]=[] from rfl,settle_nil,if_pos rfl]
def PaE2 (t:List UInt8)(w:World)(e:Ending)(w':World):Prop:=
 (∃v vs ss,e=.returned v∧wrongM t.length (allT t) [pSTMTS]=-1∧PGm ss (allT t)∧w'.ownsRow 0 112 1 v vs.length vs∧(∀b,v.ownBlock=some b→w.heap.size+1≤b)∧SdL w' (Fr (w.heap.size+1)) vs ss∧Kept 0 0 w w')∨
 (∃p:Nat,e=Thr 2 p∧wrongM t.length (allT t) [pSTMTS]=(p:Int)∧Kept 0 0 w w')
theorem parseS {w:World}{g cap:Nat}{t:List UInt8}(hg:g<w.heap.size)(hlen:(Tl t (allT t)).length≤4001)(htk:∀(j:Nat) (k:PTk),(Tl t (allT t))[j]? =some k→w.cell? ⟨g,j*3,none⟩=some (.int .i64 k.kind)∧w.cell? ⟨g,j*3+1,none⟩=some (strL k.text)∧w.cell? ⟨g,j*3+2,none⟩=some (.int .i64 (k.at_:Int))):Calls Tryz.prog 33 #[.slice (some ⟨g,0,none⟩) (Tl t (allT t)).length cap] w (PaE2 t w):=by
 obtain⟨E,hE⟩:∃E:Pe,E=⟨w.heap.size,g,cap,Tl t (allT t),t,w.heap.size+1⟩:=⟨_,rfl⟩
 have ka:=kept_alloc 0 0 w (.cells #[.slice (some ⟨g,0,none⟩) (Tl t (allT t)).length cap,.int .i64 0] 109)
 have HP0:Hid (Ps E (w.alloc (.cells #[.slice (some ⟨g,0,none⟩) (Tl t (allT t)).length cap,.int .i64 0] 109)) (allT t)):=by
  obtain⟨y1,y2,y3⟩:=box_at w _ #[.slice (some ⟨g,0,none⟩) (Tl t (allT t)).length cap,.int .i64 0] 109 (Kept.refl 0 0 _).chg (S:=fun _=>False) (fun c=>c)
  subst hE
  refine⟨0,y1 0,y1 1,y2 1,fun j k h=>?_,rfl,toks_cls t _,hlen,Nat.lt_succ_self _,Nat.lt_succ_of_lt hg,Nat.ne_of_lt hg,y3⟩
  have ce:∀o,(w.alloc (.cells #[.slice (some ⟨g,0,none⟩) (Tl t (allT t)).length cap,.int .i64 0] 109)).cell? ⟨g,o,none⟩=w.cell? ⟨g,o,none⟩:=fun o=>(ka.chg (S:=fun _=>False)).cell (p:=⟨g,o,none⟩) hg (fun c=>c)
  show(w.alloc _).cell? ⟨g,_,none⟩=_∧(w.alloc _).cell? ⟨g,_,none⟩=_∧(w.alloc _).cell? ⟨g,_,none⟩=_
  rw[ce,ce,ce]
  exact htk j k h
 have HE:Hid (E.P=w.heap.size∧E.t=t∧E.N=w.heap.size+1):=by rw[hE];exact⟨rfl,rfl,rfl⟩
 have HLn:Hid ((allT t).length≤4001):=HP0.out.len
 have HSz:Hid ((w.alloc (.cells #[.slice (some ⟨g,0,none⟩) (Tl t (allT t)).length cap,.int .i64 0] 109)).heap.size=w.heap.size+1):=by show _=_;simp
 have HKa:Hid _:=ka
 have hep:(⟨E.P,0,none⟩:Addr)=⟨w.heap.size,0,none⟩:=by rw[HE.out.1]
 have HS:Hid (∀W k us,Ps E W (k::us)→Calls Tryz.prog 58 #[.pointer (some ⟨w.heap.size,0,none⟩)] W (StE E W (k::us))):=fun W k us h=>by rw[←hep];exact statementS h
 have HPk:Hid (∀W us,Ps E W us→Calls Tryz.prog 57 #[.pointer (some ⟨w.heap.size,0,none⟩)] W fun e w'=>e=.returned (tkV (hdP t.length us))∧Kept 0 0 W w'):=fun W us h=>by rw[←hep,←HE.out.2.1];exact peekS h
 clear hg hlen htk hE ka hep
 generalize (Tl t (allT t)).length=nT at*
 have HKp:Hid (∀W',Ch E (w.alloc (.cells #[.slice (some ⟨g,0,none⟩) nT cap,.int .i64 0] 109)) W'→Kept 0 0 w W'):=fun W' c=>Chg.kept HKa.out c (fun b e=>by have:=HE.out.1;omega)
 go_enter Tryz.func33,Tryz.ntmps33
 go_wp2_with fail
 go_loopg [4] (allT t).length (fun m sl W=>∃(ss:List Sm) (vs:List Value) (us ws:List Tok),ws.length=m∧Hid (allT t=us++ws)∧Hid (PGm ss us)∧Hid (W.ownsRow 0 112 1 sl vs.length vs)∧Hid (∀b,sl.ownBlock=some b→w.heap.size+1≤b)∧Hid (SdL W (Fr (w.heap.size+1)) vs ss)∧Hid (Ps E W ws)∧Hid (Ch E (w.alloc (.cells #[.slice (some ⟨g,0,none⟩) nT cap,.int .i64 0] 109)) W)∧Hid (wrongM t.length (allT t) [pSTMTS]=wrongM t.length ws [pSTMTS]))
 case atStart=>exact⟨[],[],[],allT t,rfl,rfl,.nil,World.ownsRow_nil _ _ _ _,fun b e=>(by cases e),⟨rfl,fun j v s h=>(by cases h)⟩,HP0,ch_refl E _,rfl⟩
 case round=>
  obtain⟨ss,vs,us,ws,hm,hsp,hPG,hR,hO,hSd,hPs,hCh,hWr⟩:=hrel
  have hcl:∀k∈ws,TkC k:=by obtain⟨i,h⟩:=hPs.out;exact h.cl
  have hk0:=(hd_kind (n:=t.length) hcl).2.2.2.2
  have HPk2:Hid _:=HPk.out wr ws hPs.out
  cases ws with
  |nil=>
   have hz:(hdP t.length ([]:List Tok)).kind=0:=rfl
   have HU:Hid (allT t=us):=by show _=_;rw[hsp.out];simp
   have HW:Hid (wrongM t.length (allT t) [pSTMTS]=-1):=hWr.out.trans (stmts_end _)
   clear hcl hk0 hm HS HPk
   generalize hdP t.length ([]:List Tok)=kv at*
   go_wp2_with (go_at_call 57;refine Calls.mono HPk2.out ?_;rintro e w2 ⟨rfl,k2⟩;unfold tkV)
   go_ret
   exact .inl ⟨_,vs,ss,rfl,HW.out,by rw[HU.out];exact hPG.out,st_keep hR.out (k2.chg (S:=fun _=>False)) (fun _ _ h=>h.elim),hO.out,hSd.out.oth (k2.chg (S:=fun _=>False)) (fun _ h=>h.elim),HKp.out w2 (hCh.out.andThen k2.chg)⟩
  |cons k us4=>
   have hz:¬(hdP t.length (k::us4)).kind=0:=fun h=>by have:=hk0.1 h;cases this
   have HV:Hid (vs.length+1≤1000000):=by
    have h1:=pg_len hPG.out
    have h2:=HLn.out
    have h3:=hSd.out.1
    rw[hsp.out] at h2
    simp at h2
    show _≤_
    omega
   have hmm:us4.length<gk:=by simp at hm;omega
   clear hcl hk0 hm HPk
   generalize hdP t.length (k::us4)=kv at*
   go_wp2_with (first
    |(go_at_call 57;refine Calls.mono HPk2.out ?_;rintro e w2 ⟨rfl,k2⟩;unfold tkV)
    |(go_at_call 58;refine Calls.mono (HS.out w2 k us4 (hPs.out.keep k2)) ?_;rintro e w5 (⟨us5,ws5,v5,rfl,hsp5,hw5,hT5,hC5,s5,u1,c5,hu5,hp5,hc5,hs5⟩|⟨p,rfl,hw5,hC5⟩);rotate_left;exact And.intro rfl (Or.inr ⟨p,rfl,(by have h:=hw5.out;rw[HE.out.2.1] at h;exact hWr.out.trans h),HKp.out w5 ((hCh.out.andThen k2.chg).andThen hC5)⟩);replace hu5:Hid _:=hu5;obtain⟨T5,y5,rfl⟩:=hs5.iface;have hn5:=cell_new1 w5 (.iface T5 y5) 112;have HRw:Hid _:=st_keep (st_keep hR.out (k2.chg.andThen hC5) (fun b e=>by have:=hO.out b e;have:=HE.out.1;omega)) ((kept_alloc 0 0 w5 (.cells #[.iface T5 y5] 112)).chg (S:=fun _=>False)) (fun _ _ h=>h.elim))
    |(at_builtin;refine wpList_appendSt _ rfl _ _ rfl _ vs (by rfl) HRw.out w5.heap.size T5 y5 (by rfl) hn5 HV.out ?_))
   intro g9 cap9 n9 w9 hn9 hR9 hC9 hG9
   have ka:=kept_alloc 0 0 w5 (.cells #[.iface T5 y5] 112)
   have hPn:E.P<w.heap.size+1:=by have:=HE.out.1;omega
   have hC5':Ch E wr w5:=k2.chg.andThen hC5
   have hb2:w.heap.size+1≤w2.heap.size:=by have h1:=HSz.out;have h2:=hCh.out.size;have h3:=k2.size;omega
   have HSd9:Hid (SdL w9 (Fr (w.heap.size+1)) (vs++[.iface T5 y5]) (ss++[s5])):=((((hSd.out.ch hC5' hPn).oth (ka.chg (S:=fun _=>False)) (fun _ h=>h.elim)).oth hC9 (st_own HRw.out)).snoc (((hs5.mono (fun _ q=>Nat.le_trans hb2 q)).oth (ka.chg (S:=fun _=>False)) (fun _ h=>h.elim)).oth hC9 (st_own HRw.out)))
   have HP9:Hid _:=(hT5.keep ka).far hC9 (fun b e=>by have:=hO.out b e;have:=HE.out.2.2;omega)
   have HC9:Hid (Ch E (w.alloc (.cells #[.slice (some ⟨g,0,none⟩) nT cap,.int .i64 0] 109)) w9):=((hCh.out.andThen hC5').andThen ka.chg).new hC9 (fun b h e=>by have:=hO.out b e;have:=HSz.out;omega)
   have HO9:Hid (∀b,(Value.slice (some ⟨g9,0,none⟩) n9 cap9).ownBlock=some b→w.heap.size+1≤b):=fun b e=>by
    have e2:g9=b:=by injection e
    subst e2
    rcases hG9 with q|q
    ·exact hO.out _ q
    ·have h1:=hC5.size;omega
   have HPG9:Hid (PGm (ss++[s5]) (us++(u1++[c5]))):=pg_snoc hPG.out hp5 hc5
   have HW9:Hid (wrongM t.length (allT t) [pSTMTS]=wrongM t.length ws5 [pSTMTS]):=by show _=_;have h:=hw5.out;rw[HE.out.2.1] at h;exact hWr.out.trans h
   have HR9:Hid (w9.ownsRow 0 112 1 (.slice (some ⟨g9,0,none⟩) n9 cap9) (vs++[Value.iface T5 y5]).length (vs++[Value.iface T5 y5])):=by
    have e:n9=(vs++[Value.iface T5 y5]).length:=by rw[hn9];simp
    rw[←e]
    exact hR9
   have HM9:Hid (us4.length+1=us5.length+ws5.length∧1≤us5.length):=by
    have h:=congrArg List.length hsp5.out
    have h2:us5.length=u1.length+1:=by rw[hu5.out];simp
    rw[List.length_append,List.length_cons] at h
    exact And.intro (by omega) (by omega)
   have hlt:ws5.length<gk:=by have:=HM9.out;omega
   clear hR9 hC9 hG9 ka hs5 hT5 hC5 hC5' hn9 HRw hn5 hw5 hp5 hc5 hb2 hPn k2 hz
   go_wp2_with fail
   go_roundg ws5.length
   case measure=>exact hlt
   case rel=>exact⟨ss++[s5],_,us++(u1++[c5]),ws5,rfl,by show _=_;rw[hsp.out,hsp5.out,hu5.out];simp,HPG9,HR9,HO9,HSd9,HP9,HC9,HW9⟩
end Go.Proofs.YtgamjhpebmmjcaaGreatDoor
namespace Go.Proofs.YtgamjhpebmmjcaaGreatDoor
set_option maxRecDepth 100000
set_option maxHeartbeats 40000000
open Go.RowKit Flt
attribute [local go_sem] alloc_drewN setCell_drewN run_store_float fld0 fld1 fld2 mkF
theorem ptF_at:∀(ts:List PTk) (j:Nat) (k:PTk),ts[j]? =some k→(ptF ts)[j*3]? =some (.int .i64 k.kind)∧(ptF ts)[j*3+1]? =some (strL k.text)∧(ptF ts)[j*3+2]? =some (.int .i64 (k.at_:Int))
 |[],j,k,h=>by simp at h
 |x::r,0,k,h=>by
  simp at h
  subst h
  exact⟨rfl,rfl,rfl⟩
 |x::r,j+1,k,h=>by
  have h2:r[j]? =some k:=by simpa using h
  obtain⟨a,b,c⟩:=ptF_at r j k h2
  have e:∀o,(ptF (x::r))[(j+1)*3+o]? =(ptF r)[j*3+o]?:=fun o=>by
   rw[show(j+1)*3+o=(j*3+o)+3 by omega]
   rfl
  exact⟨(e 0).trans a,(e 1).trans b,(e 2).trans c⟩
theorem pk_cells {W:World}{B g n cap:Nat}{ts:List PTk}(f:PkR W B (.slice (some ⟨g,0,none⟩) n cap) ts):n=ts.length∧g<W.heap.size∧∀(j:Nat) (k:PTk),ts[j]? =some k→W.cell? ⟨g,j*3,none⟩=some (.int .i64 k.kind)∧W.cell? ⟨g,j*3+1,none⟩=some (strL k.text)∧W.cell? ⟨g,j*3+2,none⟩=some (.int .i64 (k.at_:Int)):=by
 rcases f.2 with⟨h,_⟩|⟨g2,cap2,cur,h1,_,h2,_,_,_,h5⟩
 ·cases h
 ·cases h1
  have hg:g<W.heap.size:=by
   rcases Nat.lt_or_ge g W.heap.size with c|c
   ·exact c
   ·rw[Array.getElem?_eq_none c] at h2;cases h2
  refine⟨rfl,hg,fun j k h=>?_⟩
  obtain⟨a,b,c⟩:=ptF_at ts j k h
  have cc:∀(o:Nat) (v:Value),(ptF ts)[o]? =some v→W.cell? ⟨g,o,none⟩=some v:=fun o v hv=>by
   rw[←h5] at hv
   have hv2:=hv
   rw[List.getElem?_take] at hv2
   split at hv2
   ·unfold World.cell?
    simp only[h2]
    simpa using hv2
   ·cases hv2
  exact⟨cc _ _ a,cc _ _ b,cc _ _ c⟩
def dcM (s:List UInt8):Int:=(s.length:Int)-((numsOf s).countP (· ==46):Nat)
theorem digS (s:List UInt8)(w:World)(hn:s.length≤1048576):Calls Tryz.prog 15 #[strL s] w fun e w'=>e=.returned (.int .i64 (dcM s))∧w'=w:=by
 have h:=digitCount (numsOf s) w (fun x hx=>by
  unfold numsOf at hx
  obtain⟨b,_,rfl⟩:=List.mem_map.1 hx
  have:=UInt8.toNat_lt b
  omega) (by rw[nums_len];exact hn)
 rw[str_nums,nums_len] at h
 exact h
theorem good_count {xs:List Int}(h:Good xs):xs.countP dig+xs.countP (· ==46)=xs.length:=by
 obtain⟨p,h⟩:=h
 have:∀x∈xs,(x==46)=!(dig x):=fun x hx=>by
  obtain⟨i,hi,rfl⟩:=List.getElem_of_mem hx
  have e:xs.getD i 0=xs[i]:=by rw[List.getD_eq_getElem?_getD,List.getElem?_eq_getElem hi];rfl
  by_cases c:xs[i]=46
  ·rw[c];rfl
  ·have:=h.digit i hi (by rw[e];exact c)
   rw[e] at this
   rw[this]
   simpa using c
 rw[List.countP_congr (p:=(· ==46)) (q:=fun a=>decide (¬dig a=true)) (fun x hx=>by rw[this x hx];cases dig x<;>simp)]
 exact(List.length_eq_countP_add_countP dig (l:=xs)).symm
end Go.Proofs.YtgamjhpebmmjcaaGreatDoor
namespace Go.Proofs.YtgamjhpebmmjcaaGreatDoor
set_option maxRecDepth 100000
set_option maxHeartbeats 40000000
open Go.RowKit Flt
attribute [local go_sem] alloc_drewN setCell_drewN run_store_float fld0 fld1 fld2 mkF
def numB (k:PTk):Bool:=k.kind==4||k.kind==5
def CkO (T:List PTk)(w:World)(e:Ending)(w':World):Prop:=
 ((e=.returned (.tuple #[])∧∀(j:Nat) (q:PTk),T[j]? =some q→numB q=true→dcM q.text≤15)∨(∃(i:Nat) (k:PTk),e=Thr 5 (k.at_:Nat)∧T[i]? =some k∧numB k=true∧15<dcM k.text∧∀(j:Nat) (q:PTk),j<i→T[j]? =some q→numB q=true→dcM q.text≤15))∧Kept 0 0 w w'
theorem checkS {w:World}{g n cap:Nat}{T:List PTk}(hn:n=T.length)(hl:n≤4001)(hg:g<w.heap.size)(htk:∀(j:Nat) (k:PTk),T[j]? =some k→w.cell? ⟨g,j*3,none⟩=some (.int .i64 k.kind)∧w.cell? ⟨g,j*3+1,none⟩=some (strL k.text)∧w.cell? ⟨g,j*3+2,none⟩=some (.int .i64 (k.at_:Int)))(hx:∀k∈T,k.text.length≤4000):Calls Tryz.prog 34 #[.slice (some ⟨g,0,none⟩) n cap] w (CkO T w):=by
 have HT:Hid _:=htk
 have HX:Hid _:=hx
 have HN:Hid _:=hn
 have HG:Hid _:=hg
 clear htk hx hn hg
 go_enter Tryz.func34,Tryz.ntmps34
 go_wp2_with fail
 go_loopw [6] (fun iv W=>∃j:Nat,j≤n∧iv=.int .i64 (j:Int)∧Hid (Kept 0 0 w W)∧Hid (∀(i:Nat) (q:PTk),i<j→T[i]? =some q→numB q=true→dcM q.text≤15)) (fun iv _=>n-(intOf iv).toNat)
 case atStart=>exact⟨0,Nat.zero_le _,rfl,Kept.refl 0 0 w,fun i q h=>by omega⟩
 case round=>
  obtain⟨j,hj,rfl,hK,hA⟩:=hrel
  by_cases hlt:j<n
  ·obtain⟨k,hk⟩:∃k,T[j]? =some k:=⟨_,List.getElem?_eq_getElem (by rw[←HN.out];exact hlt)⟩
   obtain⟨c0,c1,c2⟩:=HT.out j k hk
   have ce:∀o,wr.cell? ⟨g,o,none⟩=w.cell? ⟨g,o,none⟩:=fun o=>(hK.out.chg (S:=fun _=>False)).cell (p:=⟨g,o,none⟩) HG.out (fun c=>c)
   rw[←ce] at c0 c1 c2
   have hgr:g<wr.heap.size:=Nat.lt_of_lt_of_le HG.out hK.out.size
   have HXk:Hid (k.text.length≤4000):=HX.out k (List.mem_of_getElem? hk)
   have HKk:Hid _:=hk
   have ka:=kept_alloc 0 0 wr (.cells #[.int .i64 k.kind,strL k.text,.int .i64 (k.at_:Int)] 106)
   have HK1:Hid _:=hK.out.trans ka
   have HB:Hid (∀w5,Kept 0 0 (wr.alloc (.cells #[.int .i64 k.kind,strL k.text,.int .i64 (k.at_:Int)] 106)) w5→w5.cell? ⟨wr.heap.size,0,none⟩=some (.int .i64 k.kind)∧w5.cell? ⟨wr.heap.size,1,none⟩=some (strL k.text)∧w5.cell? ⟨wr.heap.size,2,none⟩=some (.int .i64 (k.at_:Int))):=fun w5 c=>by have h:=box_at wr w5 _ _ (c.chg (S:=fun _=>False)) (fun e=>e);exact⟨h.1 0,h.1 1,h.1 2⟩
   have HNu:Hid (∀W,Calls Tryz.prog 59 #[.agg #[.int .i64 k.kind,strL k.text,.int .i64 (k.at_:Int)]] W fun e w'=>e=.returned (.bool (numB k))∧Kept 0 0 W w'):=fun W=>isNumS k W
   have HD:Hid (∀W,_):=fun W=>digS k.text W (by have:=HXk.out;omega)
   clear hk ce ka
   go_upto_region 3 with fail
   generalize wr.alloc (.cells #[.int .i64 k.kind,strL k.text,.int .i64 (k.at_:Int)] 106)=w1 at*
   obtain⟨s0,s1,s2⟩:=HB.out w1 (Kept.refl 0 0 _)
   generalize wr.heap.size=bb at*
   cases hb:numB k
   ·have HA2:Hid (∀(i:Nat) (q:PTk),i<j+1→T[i]? =some q→numB q=true→dcM q.text≤15):=fun i q h h2 h3=>by
     by_cases e:i=j
     ·subst e;have:=HKk.out.symm.trans h2;cases this;rw[hb] at h3;cases h3
     ·exact hA.out i q (by omega) h2 h3
    rw[hb] at HNu
    go_wp2_with (go_at_call 59;refine Calls.mono (HNu.out _) ?_;rintro e w4 ⟨rfl,k4⟩;obtain⟨q0,q1,q2⟩:=HB.out w4 k4)
    go_roundw
    case rel=>exact⟨j+1,by omega,by go_num,HK1.out.trans k4,HA2⟩
    case measure=>simp[intOf];omega
   ·rw[hb] at HNu
    have HBt:Hid _:=hb
    generalize hdc:dcM k.text=dd at*
    have HDc:Hid _:=hdc
    clear hdc hb
    by_cases h15:15<dd
    ·go_wp2_with (first|(go_at_call 59;refine Calls.mono (HNu.out _) ?_;rintro e w4 ⟨rfl,k4⟩;obtain⟨q0,q1,q2⟩:=HB.out w4 k4)|(go_at_call 15;refine Calls.mono (HD.out _) ?_;rintro e w5 ⟨rfl,hw5⟩;obtain rfl:=hw5.symm)|(go_at_call 60;refine Calls.mono (stopS _ _ _) ?_;rintro e w6 ⟨rfl,hw6⟩;obtain rfl:=hw6.symm))
     exact⟨rfl,.inr ⟨j,k,rfl,HKk.out,HBt.out,by rw[HDc.out];exact h15,fun i q h=>hA.out i q h⟩,HK1.out.trans k4⟩
    ·have HA2:Hid (∀(i:Nat) (q:PTk),i<j+1→T[i]? =some q→numB q=true→dcM q.text≤15):=fun i q h h2 h3=>by
      by_cases e:i=j
      ·subst e;have:=HKk.out.symm.trans h2;cases this;rw[HDc.out];omega
      ·exact hA.out i q (by omega) h2 h3
     go_wp2_with (first|(go_at_call 59;refine Calls.mono (HNu.out _) ?_;rintro e w4 ⟨rfl,k4⟩;obtain⟨q0,q1,q2⟩:=HB.out w4 k4)|(go_at_call 15;refine Calls.mono (HD.out _) ?_;rintro e w5 ⟨rfl,hw5⟩;obtain rfl:=hw5.symm))
     go_roundw
     case rel=>exact⟨j+1,by omega,by go_num,HK1.out.trans k4,HA2⟩
     case measure=>simp[intOf];omega
  ·have hjn:j=n:=by omega
   subst hjn
   go_wp2_with fail
   first
    |(refine bodyPost_ret (v:=.tuple #[]) (by simp[results,Tryz.results34,go_sem]) rfl ?_;exact⟨.inl ⟨rfl,fun i q h h2=>hA.out i q (by rw[HN.out];exact(List.getElem?_eq_some_iff.1 h).1) h h2⟩,hK.out⟩)
    |(go_end0;exact⟨.inl ⟨rfl,fun i q h h2=>hA.out i q (by rw[HN.out];exact(List.getElem?_eq_some_iff.1 h).1) h h2⟩,hK.out⟩)
end Go.Proofs.YtgamjhpebmmjcaaGreatDoor
