import Derived.Test.YtgamjhpebmmjcaaGreatDoorP36
import Derived.Test.YtgamjhpebmmjcaaGreatDoorP37
import Derived.Deep.RegionWith
namespace Go.Proofs.YtgamjhpebmmjcaaGreatDoor
set_option maxRecDepth 100000
set_option maxHeartbeats 40000000
open Go.RowKit Flt
attribute [local go_sem] alloc_drewN setCell_drewN run_store_float fld0 fld1 fld2 mkF
theorem kwDot {E:Pe}{n:Nat}(hX:XC E 97 [pEXPR] 2 n){w:World}{k:Tok}{us0:List Tok}(f:Ps E w (k::us0))(hlen:us0.length<n+1)(hk:k.sym=kDot):Calls Tryz.prog 174 #[.pointer (some ⟨E.P,0,none⟩)] w (Ot E w (k::us0) [pUNARY] (GN w 0)):=by
 have hcl:∀x∈(k::us0),TkC x:=by obtain⟨i,h⟩:=f;exact h.cl
 have htx:(cvT k).text=kDot:=(hd_text (n:=E.t.length) hcl (by decide)).2 hk
 have HPk:Hid (Calls Tryz.prog 57 #[.pointer (some ⟨E.P,0,none⟩)] w fun e w'=>e=.returned (.agg #[.int .i64 (cvT k).kind,strL (cvT k).text,.int .i64 ((cvT k).at_:Int)])∧Kept 0 0 w w'):=peekS f
 rw[htx] at HPk
 have HPw:Hid (E.P<w.heap.size):=f.nw.1
 have HKs:Hid (k.sym=kDot):=hk
 have HOp:Hid (∀W,Kept 0 0 w W→Calls Tryz.prog 177 #[.pointer (some ⟨E.P,0,none⟩),.int .i64 2] W (Ot E W (k::us0) [k.sym,[40],pEXPR,[44],pEXPR] (GOp W k 2))):=fun W kk=>openedS hX (f.keep kk) hlen (by rw[hk];decide) (m:=1) (by omega)
 have HW:Hid (∀r,wrongM E.t.length (k::us0) ([pUNARY]++r)=wrongM E.t.length (k::us0) ([k.sym,[40],pEXPR,[44],pEXPR,[41]]++r)):=fun r=>by
  show wrongM _ _ (pUNARY::r)=_
  rw[wrong_un,show hdS (k::us0)=kDot from hk,hk]
  rfl
 clear hX f hlen hcl htx hk
 go_enter Tryz.func174,Tryz.ntmps174
 go_upto_region 25 with (first|(go_at_call 57;refine Calls.mono HPk.out ?_;rintro e w2 ⟨rfl,k2⟩)|(go_at_call 177;refine Calls.mono (HOp.out _ k2) ?_;rintro e w3 (⟨us3,ws3,v3,rfl,hsp3,hw3,hT3,hC3,l,t1,es3,vs3,sl3,hu3,hl,hp3,hn3,rfl,hG3⟩|⟨p,rfl,hw3,hC3⟩);rotate_left;exact And.intro rfl (Ot.bad (ts:=k::us0) (st:=[pUNARY]) (st2:=[k.sym,[40],pEXPR,[44],pEXPR,[41]]) HW.out k2.chg (fun r=>hw3.out ([[41]]++r)) hC3);obtain⟨a3,c3,rfl⟩:=hG3.rw.form;replace hu3:Hid _:=hu3;replace hl:Hid _:=hl;replace hn3:Hid _:=hn3))
 obtain⟨e1,e2,t2,c2,t3,he3,ht3,p1,hc2,p2⟩:=pr3_two hp3 hn3.out
 subst he3
 obtain⟨v1,v2,rfl⟩:=two_of hG3.nd.1
 replace ht3:Hid _:=ht3
 have hGz:=hG3.le k2.size
 have ka:=kept_alloc 0 0 w3 (.cells #[.int .i64 (k.pos:Int),.slice a3 2 c3] 247)
 have kb:=kept_alloc 0 0 (w3.alloc (.cells #[.int .i64 (k.pos:Int),.slice a3 2 c3] 247)) (.cells #[.iface 249 (.agg #[.int .i64 (k.pos:Int),.slice a3 2 c3,.int .i64 4])] 167)
 have hCw:Ch E w w3:=k2.chg.andThen hC3
 have HCz:Hid (Ch E w _):=hCw.andThen (ka.trans kb).chg
 have HN:Hid (Nd _ (Fr w.heap.size) (.iface 272 (.agg #[.int .i64 (k.pos:Int),.slice (some ⟨(w3.alloc (.cells #[.int .i64 (k.pos:Int),.slice a3 2 c3] 247)).heap.size,0,none⟩) 1 1])) (.key2 k e1 e2)):=.dot HKs.out (rw_new (w3.alloc (.cells #[.int .i64 (k.pos:Int),.slice a3 2 c3] 247)) w.heap.size [.iface 249 (.agg #[.int .i64 (k.pos:Int),.slice a3 2 c3,.int .i64 4])] (Nat.le_trans hCw.size ka.size) (by simp)) (.bin (o:=⟨[42],k.pos,k.text⟩) ((hGz.rw.keep ka).keep kb) (((hGz.ndl.2 0 _ _ rfl rfl).keep ka).keep kb) (((hGz.ndl.2 1 _ _ rfl rfl).keep ka).keep kb))
 have hTz:=(hT3.keep ka).keep kb
 have HM:Hid _:=takeMarkS hTz (s:=[41]) (by decide)
 have HWz:Hid (∀r,wrongM E.t.length (k::us0) ([pUNARY]++r)=wrongM E.t.length ws3 ([[41]]++r)):=fun r=>(HW.out r).trans (hw3.out ([[41]]++r))
 have HZ:Hid ((w3.alloc (.cells #[.int .i64 (k.pos:Int),.slice a3 2 c3] 247)).heap.size=w3.heap.size+1):=by show _=_;simp
 rw[HZ.out] at HN
 clear HPk HW hT3 hw3 hC3 k2 hG3 hGz ka kb hCw hTz
 go_wp2_with (go_at_call 99;refine Calls.mono HM.out ?_;rintro e w9 (⟨us9,ws9,v9,rfl,hsp9,hw9,hT9,hC9,r9,rfl,hr9,rfl⟩|⟨p,rfl,hw9,hC9⟩);rotate_left;exact And.intro rfl (Ot.bad (ts:=k::us0) (st:=[pUNARY]) (st2:=[[41]]) HWz.out HCz.out hw9.out hC9))
 go_ret
 exact .inl ⟨k::l::(t2++c2::(t3++[r9])),ws9,_,rfl,by show _=_;rw[hsp3.out,hu3.out,ht3.out,hsp9.out];simp,fun r=>(HWz.out r).trans (hw9.out r),hT9,HCz.out.andThen hC9,.key2 k e1 e2,.key2 (.inr HKs.out) hl.out p1 hc2 p2 hr9,HN.out.ch hC9 HPw.out⟩
theorem kwJvp {E:Pe}{n:Nat}(hX:XC E 97 [pEXPR] 2 n){w:World}{k:Tok}{us0:List Tok}(f:Ps E w (k::us0))(hlen:us0.length<n+1)(hk:k.sym=kJvp):Calls Tryz.prog 174 #[.pointer (some ⟨E.P,0,none⟩)] w (Ot E w (k::us0) [pUNARY] (GN w 0)):=by
 have hcl:∀x∈(k::us0),TkC x:=by obtain⟨i,h⟩:=f;exact h.cl
 have htx:(cvT k).text=kJvp:=(hd_text (n:=E.t.length) hcl (by decide)).2 hk
 have HPk:Hid (Calls Tryz.prog 57 #[.pointer (some ⟨E.P,0,none⟩)] w fun e w'=>e=.returned (.agg #[.int .i64 (cvT k).kind,strL (cvT k).text,.int .i64 ((cvT k).at_:Int)])∧Kept 0 0 w w'):=peekS f
 rw[htx] at HPk
 have HPw:Hid (E.P<w.heap.size):=f.nw.1
 have HKs:Hid (k.sym=kJvp):=hk
 have HJ:Hid (∀W,Kept 0 0 w W→_):=fun W kk=>jvpOpenedS hX (f.keep kk) hlen (by rw[hk];decide)
 have HW:Hid (∀r,wrongM E.t.length (k::us0) ([pUNARY]++r)=wrongM E.t.length (k::us0) (jST k++([41]::r))):=fun r=>by
  show wrongM _ _ (pUNARY::r)=_
  rw[wrong_un,show hdS (k::us0)=kJvp from hk,jST,hk]
  rfl
 clear hX f hlen hcl htx hk
 go_enter Tryz.func174,Tryz.ntmps174
 go_upto_region 25 with (first|(go_at_call 57;refine Calls.mono HPk.out ?_;rintro e w2 ⟨rfl,k2⟩)|(go_at_call 179;refine Calls.mono (HJ.out _ k2) ?_;rintro e w3 (⟨us3,ws3,v3,rfl,hsp3,hw3,hT3,hC3,l,t1,c1,x1,c2,t2,e1,d1,hu3,hl,p1,hc1,hx1,hc2,p2,hN3⟩|⟨p,rfl,hw3,hC3⟩);rotate_left;exact And.intro rfl (Ot.bad (ts:=k::us0) (st:=[pUNARY]) (st2:=jST k++[[41]]) (fun r=>HW.out r) k2.chg (fun r=>hw3.out ([41]::r)) hC3);replace hu3:Hid _:=hu3;replace hl:Hid _:=hl;replace hc1:Hid _:=hc1;replace hx1:Hid _:=hx1;replace hc2:Hid _:=hc2))
 have HM:Hid _:=takeMarkS hT3 (s:=[41]) (by decide)
 have HCz:Hid (Ch E w w3):=k2.chg.andThen hC3
 have HN:Hid (Nd w3 (Fr w.heap.size) v3 (.jvp k e1 x1 d1)):=hN3.fr k2.size
 have HWz:Hid (∀r,wrongM E.t.length (k::us0) ([pUNARY]++r)=wrongM E.t.length ws3 ([[41]]++r)):=fun r=>(HW.out r).trans (hw3.out ([41]::r))
 clear HPk HW hT3 hw3 hC3 k2 hN3
 go_wp2_with (go_at_call 99;refine Calls.mono HM.out ?_;rintro e w9 (⟨us9,ws9,v9,rfl,hsp9,hw9,hT9,hC9,r9,rfl,hr9,rfl⟩|⟨p,rfl,hw9,hC9⟩);rotate_left;exact And.intro rfl (Ot.bad (ts:=k::us0) (st:=[pUNARY]) (st2:=[[41]]) HWz.out HCz.out hw9.out hC9))
 go_ret
 exact .inl ⟨k::l::(t1++c1::x1::c2::(t2++[r9])),ws9,_,rfl,by show _=_;rw[hsp3.out,hu3.out,hsp9.out];simp,fun r=>(HWz.out r).trans (hw9.out r),hT9,HCz.out.andThen hC9,.jvp k e1 x1 d1,.jvp HKs.out hl.out p1 hc1.out hx1.out hc2.out p2 hr9,HN.out.ch hC9 HPw.out⟩
end Go.Proofs.YtgamjhpebmmjcaaGreatDoor
namespace Go.Proofs.YtgamjhpebmmjcaaGreatDoor
set_option maxRecDepth 100000
set_option maxHeartbeats 40000000
open Go.RowKit Flt
theorem keys_cases {s:List UInt8}(h:s∈keysL):s=kIn∨s=kLet∨s=kOut∨s=kDef∨s=kRep∨s=kExp∨s=kSum∨s=kMax∨s=kDot∨s=kSel∨s=kFill∨s=kPick∨s=kPut∨s=kGrad∨s=kJvp:=by
 unfold keysL at h
 simp only[List.mem_cons,List.not_mem_nil,or_false] at h
 exact h
theorem keyWordS {E:Pe}{n:Nat}(hX:XC E 97 [pEXPR] 2 n)(W:World)(ts:List Tok)(f:Ps E W ts)(hlen:ts.length<n+1)(hk:hdS ts∈keysL):Calls Tryz.prog 174 #[.pointer (some ⟨E.P,0,none⟩)] W (Ot E W ts [pUNARY] (GN W 0)):=by
 cases ts with
 |nil=>exact absurd hk (by decide)
 |cons k us0=>
  have hl:us0.length<n+1:=by simp at hlen;omega
  have hk:k.sym∈keysL:=hk
  rcases keys_cases hk with h|h|h|h|h|h|h|h|h|h|h|h|h|h|h
  ·exact kwIn f h
  ·exact kwLet f h
  ·exact kwOut f h
  ·exact kwDef f h
  ·exact kwRep f h
  ·exact kwExp hX f hl h
  ·exact kwSum hX f hl h
  ·exact kwMax hX f hl h
  ·exact kwDot hX f hl h
  ·exact kwSel hX f hl h
  ·exact kwFill hX f hl h
  ·exact kwPick hX f hl h
  ·exact kwPut hX f hl h
  ·exact kwGrad hX f hl h
  ·exact kwJvp hX f hl h
theorem unary_all (E:Pe):∀n,XC E 150 [pUNARY] 0 n
 |0=>fun _ _ _ h=>absurd h (Nat.not_lt_zero _)
 |n+1=>by
  have ih:=unary_all E n
  have hX:=exprS (termS ih)
  exact unaryS (fun W ts f hl h45=>primaryS hX (keyWordS hX) f hl h45) ih
theorem expr_all {E:Pe}{W:World}{ts:List Tok}(f:Ps E W ts):Calls Tryz.prog 97 #[.pointer (some ⟨E.P,0,none⟩)] W (Ot E W ts [pEXPR] (GN W 2)):=exprS (termS (unary_all E (ts.length+1))) W ts f (Nat.lt_succ_self _)
end Go.Proofs.YtgamjhpebmmjcaaGreatDoor
namespace Go.Proofs.YtgamjhpebmmjcaaGreatDoor
set_option maxRecDepth 100000
set_option maxHeartbeats 40000000
open Go.RowKit Flt
attribute [local go_sem] alloc_drewN setCell_drewN run_store_float fld0 fld1 fld2 mkF
theorem pp_len {ps ts:List Tok}(h:PPm ps ts):ps.length≤ts.length:=by
 induction h<;>simp_all<;>omega
theorem pars_shut {n:Nat}{ts:List Tok}(h:hdS ts≠sName)(r:List (List UInt8)):wrongM n ts (pPARAMS::r)=wrongM n ts r:=by
 rw[wrong_part (by decide)]
 have er:ruleM pPARAMS (hdS ts)=[]:=by
  unfold ruleM
  rw[if_neg (by decide),if_pos rfl,if_neg (show ¬hdS ts=[110,97,109,101] from h)]
 rw[er]
 rfl
theorem pars_yes {n:Nat}{k:Tok}{us:List Tok}(h:k.sym=sName)(r:List (List UInt8)):wrongM n (k::us) (pPARAMS::r)=wrongM n us (pMOREPARAMS::r):=by
 rw[wrong_part (by decide)]
 have er:ruleM pPARAMS (hdS (k::us))=[sName,pMOREPARAMS]:=by
  show ruleM pPARAMS k.sym=_
  rw[h];rfl
 rw[er]
 exact wrong_yes (by decide) h (pMOREPARAMS::r)
theorem pars_bad {n p:Nat}{ts:List Tok}(h:hdS ts≠[41])(hw:∀r,wrongM n ts ([sName]++r)=(p:Int))(r:List (List UInt8)):wrongM n ts (pPARAMS::[41]::r)=(p:Int):=by
 by_cases c:hdS ts=sName
 ·rw[wrong_part (by decide),c]
  exact hw (pMOREPARAMS::[41]::r)
 ·rw[pars_shut c,wrong_no (by decide) h]
  have e1:=hw []
  rw[show[sName]++[]=sName::([]:List (List UInt8)) from rfl,wrong_no (by decide) c] at e1
  exact e1
theorem mpars_yes {n:Nat}{k:Tok}{us:List Tok}(h:k.sym=[44])(r:List (List UInt8)):wrongM n (k::us) (pMOREPARAMS::r)=wrongM n us (sName::pMOREPARAMS::r):=by
 rw[wrong_part (by decide)]
 have er:ruleM pMOREPARAMS (hdS (k::us))=[[44],sName,pMOREPARAMS]:=by
  show ruleM pMOREPARAMS k.sym=_
  rw[h];rfl
 rw[er]
 exact wrong_yes (by decide) h (sName::pMOREPARAMS::r)
theorem mpars_no {n:Nat}{ts:List Tok}(h:hdS ts≠[44])(r:List (List UInt8)):wrongM n ts (pMOREPARAMS::r)=wrongM n ts r:=by
 rw[wrong_part (by decide)]
 have er:ruleM pMOREPARAMS (hdS ts)=[]:=by
  unfold ruleM
  rw[if_neg (by decide),if_neg (by decide),if_pos rfl,if_neg h]
 rw[er]
 rfl
theorem pk_new (W:World)(k:PTk)(B:Nat)(hB:B≤W.heap.size):PkR (W.alloc (.cells #[.int .i64 k.kind,strL k.text,.int .i64 (k.at_:Int)] 106)) B (.slice (some ⟨W.heap.size,0,none⟩) 1 1) [k]:=by
 refine⟨by simp[ptF,ptc],.inr ⟨W.heap.size,1,#[.int .i64 k.kind,strL k.text,.int .i64 (k.at_:Int)],rfl,hB,?_,Nat.le_refl _,by decide,rfl,by simp[ptF,ptc]⟩⟩
 simp[World.alloc,-World.alloc_eq]
theorem pk_ch {E:Pe}{W W':World}{B:Nat}{v:Value}{ts:List PTk}(f:PkR W B v ts)(c:Ch E W W')(h:E.P<B):PkR W' B v ts:=by
 refine⟨f.1,f.2.imp id ?_⟩
 rintro⟨g,cap,cur,e1,b1,b2,b3⟩
 refine⟨g,cap,cur,e1,b1,?_,b3⟩
 have hg:g<W.heap.size:=by
  rcases Nat.lt_or_ge g W.heap.size with c|c
  ·exact c
  ·rw[Array.getElem?_eq_none c] at b2;cases b2
 rw[c.block g hg (fun e=>by omega)]
 exact b2
def GPs (w:World)(us:List Tok)(v:Value)(w':World):Prop:=∃ps,PkR w' w.heap.size v (ps.map cvT)∧((ps=[]∧∃l r,us=[l,r]∧l.sym=[40]∧r.sym=[41])∨∃l r t1,us=l::(t1++[r])∧l.sym=[40]∧PPm ps t1∧r.sym=[41])
theorem listedT {E:Pe}{w:World}{ts:List Tok}(f:Ps E w ts):Calls Tryz.prog 133 #[.pointer (some ⟨E.P,0,none⟩),.func (.func 134) #[.pointer (some ⟨E.P,0,none⟩)] #[]] w (Ot E w ts [[40],pPARAMS,[41]] (GPs w)):=by
 have HX:Hid (∀W us,Ps E W us→_):=fun W us g=>nameS (E:=E) (w:=W) (ts:=us) g
 have HF:Hid (Ps E w ts):=f
 have HPw:Hid (E.P<w.heap.size):=f.nw.1
 have HPwN:Hid (E.N≤w.heap.size):=f.nw.2
 have HM:Hid _:=takeMarkS f (s:=[40]) (by decide)
 clear f
 go_enter Tryz.func133,Tryz.ntmps133
 go_upto_region 2 with (go_at_call 99;refine Calls.mono HM.out ?_;rintro e w1 (⟨us1,ws1,v1,rfl,hsp1,hw1,hT1,hC1,l,rfl,hl,rfl⟩|⟨p,rfl,hw1,hC1⟩);rotate_left;exact And.intro rfl (Ot.bad (ts:=ts) (st:=[[40],pPARAMS,[41]]) (st2:=[[40],pPARAMS,[41]]) (fun r=>rfl) (ch_refl E w) (fun r=>hw1.out (pPARAMS::[41]::r)) hC1))
 have HT1:Hid (Ps E w1 ws1):=hT1
 have HC1:Hid (Ch E w w1):=hC1
 have HPk:Hid _:=peekS hT1
 have hcl:∀k∈ws1,TkC k:=by obtain⟨i,h⟩:=hT1;exact h.cl
 have hX1:(hdP E.t.length ws1).text=[41]↔hdS ws1=[41]:=hd_text hcl (by decide)
 have HLs:Hid (l.sym=[40]):=hl
 clear hl hT1 hC1 hcl HM HF
 by_cases c:hdS ws1=[41]
 ·obtain⟨k,us3,rfl,hk⟩:=hd_cons c (by decide)
  have htx:(cvT k).text=[41]:=hX1.2 c
  have HT:Hid (∀W,Kept 0 0 w1 W→_):=fun W kk=>takeS (HT1.out.keep kk) (by rw[hk];decide)
  have HW:Hid (∀r,wrongM E.t.length ts ([[40],pPARAMS,[41]]++r)=wrongM E.t.length us3 r):=fun r=>(hw1.out (pPARAMS::[41]::r)).trans ((pars_shut (by rw[c];decide) ([41]::r)).trans (wrong_yes (by decide) hk r))
  replace HPk:Hid (Calls Tryz.prog 57 #[.pointer (some ⟨E.P,0,none⟩)] w1 fun e w'=>e=.returned (.agg #[.int .i64 (cvT k).kind,strL (cvT k).text,.int .i64 ((cvT k).at_:Int)])∧Kept 0 0 w1 w'):=HPk.out
  rw[htx] at HPk
  have HKs:Hid (k.sym=[41]):=hk
  clear hX1 c htx hk
  go_wp2_with (first|(go_at_call 57;refine Calls.mono HPk.out ?_;rintro e w2 ⟨rfl,k2⟩)|(go_at_call 96;refine Calls.mono (HT.out _ k2) ?_;rintro e w3 ⟨rfl,hT3,hC3⟩))
  go_ret
  exact .inl ⟨[l,k],us3,_,rfl,hsp1,HW,hT3,(HC1.out.andThen k2.chg).andThen hC3,[],PkR.nil _ _,.inl ⟨rfl,l,k,rfl,HLs.out,HKs.out⟩⟩
 ·have hkk:((hdP E.t.length ws1).text==[41])=false:=beq_false_of_ne (fun h=>c (hX1.1 h))
  have HBd:Hid (∀p:Nat,(∀r,wrongM E.t.length ws1 ([sName]++r)=(p:Int))→∀r,wrongM E.t.length ts ([[40],pPARAMS,[41]]++r)=(p:Int)):=fun p hp r=>(hw1.out (pPARAMS::[41]::r)).trans (pars_bad c hp r)
  have HOk:Hid (∀t us,ws1=t::us→t.sym=sName→∀r,wrongM E.t.length ts ([[40],pPARAMS,[41]]++r)=wrongM E.t.length us (pMOREPARAMS::[41]::r)):=fun t us e h r=>(hw1.out (pPARAMS::[41]::r)).trans (by rw[e];exact pars_yes h ([41]::r))
  clear hX1 c
  generalize hdP E.t.length ws1=kv at*
  go_wp2_with (first|(go_at_call 57;refine Calls.mono HPk.out ?_;rintro e w2 ⟨rfl,k2⟩;unfold tkV)|(go_at_call 134;refine Calls.mono (HX.out _ ws1 (HT1.out.keep k2)) ?_;rintro e w3 (⟨us3,ws3,v3,rfl,hsp3,hw3,hT3,hC3,t3,hu3,ht3,rfl⟩|⟨p,rfl,hw3,hC3⟩);rotate_left;exact And.intro rfl (Or.inr ⟨p,rfl,HBd.out p hw3.out,(HC1.out.andThen k2.chg).andThen hC3⟩);replace hu3:Hid _:=hu3;unfold tkV))
  have ka3:=kept_alloc 0 0 w3 (.cells #[.int .i64 (cvT t3).kind,strL (cvT t3).text,.int .i64 ((cvT t3).at_:Int)] 106)
  have hCa:Ch E w w3:=(HC1.out.andThen k2.chg).andThen hC3
  have HG0:Hid (PkR (w3.alloc (.cells #[.int .i64 (cvT t3).kind,strL (cvT t3).text,.int .i64 ((cvT t3).at_:Int)] 106)) w.heap.size (.slice (some ⟨w3.heap.size,0,none⟩) 1 1) [cvT t3]):=pk_new w3 (cvT t3) w.heap.size hCa.size
  have HC4:Hid (Ch E w (w3.alloc (.cells #[.int .i64 (cvT t3).kind,strL (cvT t3).text,.int .i64 ((cvT t3).at_:Int)] 106))):=hCa.andThen ka3.chg
  have HT4:Hid (Ps E (w3.alloc (.cells #[.int .i64 (cvT t3).kind,strL (cvT t3).text,.int .i64 ((cvT t3).at_:Int)] 106)) ws3):=hT3.keep ka3
  have HPr3:Hid (PPm [t3] us3):=by rw[hu3.out];exact .one ht3
  have HW3:Hid (∀r,wrongM E.t.length ts ([[40],pPARAMS,[41]]++r)=wrongM E.t.length ws3 (pMOREPARAMS::[41]::r)):=HOk.out t3 ws3 (by rw[hsp3.out,hu3.out];rfl) ht3
  clear hT3 hC3 k2 ka3 hCa HPk HBd HOk hw3
  go_loopg [5] ws3.length (fun m sl W=>∃(ps us ws:List Tok),ws.length=m∧Hid (ws1=us++ws)∧Hid (PPm ps us)∧Hid (PkR W w.heap.size sl (ps.map cvT))∧Hid (Ps E W ws)∧Hid (Ch E w W)∧Hid (∀r,wrongM E.t.length ts ([[40],pPARAMS,[41]]++r)=wrongM E.t.length ws (pMOREPARAMS::[41]::r)))
  case atStart=>exact⟨[t3],us3,ws3,rfl,hsp3,HPr3,HG0,HT4,HC4,HW3⟩
  case round=>
   obtain⟨ps,us,ws,hm,hsp,hPr,hG,hPs,hCh,hWr⟩:=hrel
   have hcl:∀k∈ws,TkC k:=by obtain⟨i,h⟩:=hPs.out;exact h.cl
   have HPk:Hid _:=peekS hPs.out
   have hX1:(hdP E.t.length ws).text=[44]↔hdS ws=[44]:=hd_text hcl (by decide)
   clear HG0 HC4 HT4 HPr3 hsp3 HW3
   by_cases c:hdS ws=[44]
   ·obtain⟨k,us4,rfl,hk⟩:=hd_cons c (by decide)
    have htx:(cvT k).text=[44]:=hX1.2 c
    have HT:Hid (∀W,Kept 0 0 wr W→_):=fun W kk=>takeS (hPs.out.keep kk) (by rw[hk];decide)
    have HW4:Hid (∀r,wrongM E.t.length ts ([[40],pPARAMS,[41]]++r)=wrongM E.t.length us4 (sName::pMOREPARAMS::[41]::r)):=fun r=>(hWr.out r).trans (mpars_yes hk ([41]::r))
    replace HPk:Hid (Calls Tryz.prog 57 #[.pointer (some ⟨E.P,0,none⟩)] wr fun e w'=>e=.returned (.agg #[.int .i64 (cvT k).kind,strL (cvT k).text,.int .i64 ((cvT k).at_:Int)])∧Kept 0 0 wr w'):=HPk.out
    rw[htx] at HPk
    have HKs:Hid (k.sym=[44]):=hk
    have hmm:us4.length<gk:=by simp at hm;omega
    have HV:Hid ((ps.map cvT).length+1≤1000000):=by
     have h1:=pp_len hPr.out
     have h2:=HT1.out.len
     rw[hsp.out] at h2
     simp at h2
     show _≤_
     rw[List.length_map]
     omega
    clear hX1 c htx hk hcl hm
    go_upto_region 8 with (first|(go_at_call 57;refine Calls.mono HPk.out ?_;rintro e w2 ⟨rfl,k2⟩)|(go_at_call 96;refine Calls.mono (HT.out _ k2) ?_;rintro e w3 ⟨rfl,hT3,hC3⟩))
    have HC3:Hid (Ch E wr w3):=(k2.chg).andThen hC3
    have HT3:Hid (Ps E w3 us4):=hT3
    clear hT3 hC3 k2 HPk HT
    go_wp2_with (first
     |(go_at_call 134;refine Calls.mono (HX.out _ us4 HT3.out) ?_;rintro e w5 (⟨us5,ws5,v5,rfl,hsp5,hw5,hT5,hC5,t5,hu5,ht5,rfl⟩|⟨p,rfl,hw5,hC5⟩);rotate_left;exact And.intro rfl (Ot.bad (ts:=ts) (st:=[[40],pPARAMS,[41]]) (st2:=[sName,pMOREPARAMS,[41]]) HW4.out (hCh.out.andThen HC3.out) (fun r=>hw5.out (pMOREPARAMS::[41]::r)) hC5);replace hu5:Hid _:=hu5;have hn5:=pt_news w5 (cvT t5) 106;have HG5:Hid _:=pk_ch hG.out (HC3.out.andThen hC5) HPw.out;have HRw:Hid _:=PkR.keep HG5.out (kept_alloc 0 0 w5 (.cells #[.int .i64 (cvT t5).kind,strL (cvT t5).text,.int .i64 ((cvT t5).at_:Int)] 106));unfold tkV)
     |(at_builtin;refine wpList_appendP _ rfl _ _ rfl w.heap.size _ (ps.map cvT) (by rfl) HRw.out ⟨w5.heap.size,0,none⟩ (cvT t5) (by rfl) hn5 HV.out ?c3 ?_))
    case c3=>have h1:=(hCh.out.andThen (HC3.out.andThen hC5)).size;simp;omega
    intro g9 cap9 n9 w9 hn9 hR9 hC9 hG9
    have ka:=kept_alloc 0 0 w5 (.cells #[.int .i64 (cvT t5).kind,strL (cvT t5).text,.int .i64 ((cvT t5).at_:Int)] 106)
    have hfr:∀b,Value.ownBlock _=some b→w.heap.size≤b:=fun b e=>(own_blkV HG5.out e).1
    have HP9:Hid _:=(hT5.keep ka).far hC9 (fun b e=>by have:=hfr b e;have:=HPwN.out;omega)
    have HC9:Hid (Ch E w w9):=((hCh.out.andThen (HC3.out.andThen hC5)).andThen ka.chg).new hC9 (fun b h e=>by have:=hfr b e;omega)
    have HPr9:Hid (PPm (ps++[t5]) (us++[k,t5])):=.more hPr.out HKs.out ht5
    have HR9:Hid (PkR w9 w.heap.size (.slice (some ⟨g9,0,none⟩) n9 cap9) ((ps++[t5]).map cvT)):=by rw[List.map_append];exact hR9
    clear hR9 hC9 hG9 ka hfr hT5 hC5 hn9 HG5 HRw hn5
    go_wp2_with fail
    go_roundg ws5.length
    case measure=>have:=hsp5.out;rw[this] at hmm;simp at hmm;omega
    case rel=>exact⟨ps++[t5],us++[k,t5],ws5,rfl,by show _=_;rw[hsp.out,hsp5.out,hu5.out];simp,HPr9,HR9,HP9,HC9,fun r=>(HW4.out r).trans (hw5.out (pMOREPARAMS::[41]::r))⟩
   ·have hkk:((hdP E.t.length ws).text==[44])=false:=beq_false_of_ne (fun h=>c (hX1.1 h))
    have HW4:Hid (∀r,wrongM E.t.length ts ([[40],pPARAMS,[41]]++r)=wrongM E.t.length ws ([[41]]++r)):=fun r=>(hWr.out r).trans (mpars_no c ([41]::r))
    have HM:Hid (∀W,Kept 0 0 wr W→_):=fun W kk=>takeMarkS (hPs.out.keep kk) (s:=[41]) (by decide)
    clear hX1 c hcl
    generalize hdP E.t.length ws=kv2 at*
    go_wp2_with (first|(go_at_call 57;refine Calls.mono HPk.out ?_;rintro e w2 ⟨rfl,k2⟩;unfold tkV)|(go_at_call 99;refine Calls.mono (HM.out _ k2) ?_;rintro e w5 (⟨us5,ws5,v5,rfl,hsp5,hw5,hT5,hC5,r5,rfl,hr5,rfl⟩|⟨p,rfl,hw5,hC5⟩);rotate_left;exact And.intro rfl (Ot.bad (ts:=ts) (st:=[[40],pPARAMS,[41]]) (st2:=[[41]]) HW4.out (hCh.out.andThen k2.chg) (fun r=>hw5.out r) hC5)))
    go_ret
    have hC6:Ch E wr w5:=(k2.chg).andThen hC5
    exact .inl ⟨l::(us++[r5]),ws5,_,rfl,by show _=_;rw[hsp1.out,hsp.out,hsp5.out];simp,fun r=>(HW4.out r).trans (hw5.out r),hT5,hCh.out.andThen hC6,ps,pk_ch hG.out hC6 HPw.out,.inr ⟨l,r5,us,rfl,HLs.out,hPr.out,hr5⟩⟩
end Go.Proofs.YtgamjhpebmmjcaaGreatDoor
namespace Go.Proofs.YtgamjhpebmmjcaaGreatDoor
set_option maxRecDepth 100000
set_option maxHeartbeats 40000000
open Go.RowKit Flt
attribute [local go_sem] alloc_drewN setCell_drewN run_store_float fld0 fld1 fld2 mkF
inductive Sd (W:World)(M:Nat→Prop):Value→Sm→Prop
 |inS {n l:Tok}:Sd W M (.iface 223 (.agg #[.int .i64 (cvT n).kind,strL (cvT n).text,.int .i64 ((cvT n).at_:Int),.int .i64 (cvT l).kind,strL (cvT l).text,.int .i64 ((cvT l).at_:Int)])) (.inS n l)
 |letS {n:Tok} {e:Ex} {v:Value}:Nd W M v e→Sd W M (.iface 225 (.agg #[.int .i64 (cvT n).kind,strL (cvT n).text,.int .i64 ((cvT n).at_:Int),v])) (.letS n e)
 |rep {i n:Tok} {e:Ex} {v:Value}:Nd W M v e→Sd W M (.iface 227 (.agg #[.int .i64 (cvT i).kind,strL (cvT i).text,.int .i64 ((cvT i).at_:Int),.int .i64 (cvT n).kind,strL (cvT n).text,.int .i64 ((cvT n).at_:Int),v])) (.rep i n e)
 |defS {n:Tok} {ps:List Tok} {e:Ex} {sl v:Value}:PkR W 0 sl (ps.map cvT)→(∀b,sl.ownBlock=some b→M b)→Nd W M v e→Sd W M (.iface 232 (.agg #[.int .i64 (cvT n).kind,strL (cvT n).text,.int .i64 ((cvT n).at_:Int),sl,v])) (.defS n ps e)
 |outS {k:Tok} {e:Ex} {v:Value}:Nd W M v e→Sd W M (.iface 170 (.agg #[.int .i64 (cvT k).kind,strL (cvT k).text,.int .i64 ((cvT k).at_:Int),v])) (.outS k e)
def GSt (w:World)(us:List Tok)(v:Value)(w':World):Prop:=∃s,PSm s us∧Sd w' (Fr w.heap.size) v s
structure TBx (W:World)(b:Nat)(x:Tok):Prop where
 c0:W.cell? ⟨b,0,none⟩=some (.int .i64 (cvT x).kind)
 c1:W.cell? ⟨b,1,none⟩=some (strL (cvT x).text)
 c2:W.cell? ⟨b,2,none⟩=some (.int .i64 ((cvT x).at_:Int))
 lt:b<W.heap.size
theorem TBx.new (W:World)(x:Tok):TBx (W.alloc (.cells #[.int .i64 (cvT x).kind,strL (cvT x).text,.int .i64 ((cvT x).at_:Int)] 106)) W.heap.size x:=by
 obtain⟨h1,_,h3⟩:=box_at W _ #[.int .i64 (cvT x).kind,strL (cvT x).text,.int .i64 ((cvT x).at_:Int)] 106 (Kept.refl 0 0 _).chg (S:=fun _=>False) (fun c=>c)
 exact⟨h1 0,h1 1,h1 2,h3⟩
theorem TBx.ch {E:Pe}{W W':World}{b:Nat}{x:Tok}(f:TBx W b x)(c:Ch E W W')(h:E.P<b):TBx W' b x:=by
 have n:¬b=E.P:=by omega
 exact⟨(c.cell (p:=⟨b,0,none⟩) f.lt n).trans f.c0,(c.cell (p:=⟨b,1,none⟩) f.lt n).trans f.c1,(c.cell (p:=⟨b,2,none⟩) f.lt n).trans f.c2,Nat.lt_of_lt_of_le f.lt c.size⟩
theorem PkR.form {W:World}{B:Nat}{v:Value}{ts:List PTk}(f:PkR W B v ts):∃a cap,v=.slice a ts.length cap:=by
 rcases f.2 with⟨h,h0⟩|⟨g,cap,cur,h1,_⟩
 ·exact⟨none,0,by rw[h,h0]⟩
 ·exact⟨_,cap,h1⟩
theorem PkR.zero {W:World}{B:Nat}{v:Value}{ts:List PTk}(f:PkR W B v ts):PkR W 0 v ts:=⟨f.1,f.2.imp id (fun⟨g,cap,cur,h1,_,h3⟩=>⟨g,cap,cur,h1,Nat.zero_le _,h3⟩)⟩
theorem pk_le {W:World}{B B':Nat}{v:Value}{ts:List PTk}(f:PkR W B v ts)(h:B'≤B):PkR W B' v ts:=⟨f.1,f.2.imp id (fun⟨g,cap,cur,h1,h2,h3⟩=>⟨g,cap,cur,h1,Nat.le_trans h h2,h3⟩)⟩
theorem inStS {E:Pe}{w:World}{k:Tok}{us0:List Tok}(f:Ps E w (k::us0))(hk:k.sym=kIn):Calls Tryz.prog 92 #[.pointer (some ⟨E.P,0,none⟩)] w (Ot E w (k::us0) [k.sym,sName,[58],sInt] (GSt w)):=by
 have HT:Hid _:=takeS f (by rw[hk];decide)
 have HPw:Hid (E.P<w.heap.size):=f.nw.1
 have HKs:Hid (k.sym=kIn):=hk
 have HW0:Hid (∀r,wrongM E.t.length (k::us0) ([k.sym,sName,[58],sInt]++r)=wrongM E.t.length us0 ([sName,[58],sInt]++r)):=fun r=>wrong_yes (by rw[hk];decide) rfl _
 clear f hk
 go_enter Tryz.func92,Tryz.ntmps92
 go_upto_region 2 with (go_at_call 96;refine Calls.mono HT.out ?_;rintro e w0 ⟨rfl,hT0,hC0⟩)
 have HC0:Hid (Ch E w w0):=hC0
 have HP0:Hid (Ps E w0 us0):=hT0
 clear hT0 hC0 HT
 have HD1:Hid _:=takeKindS HP0.out (kd:=2) (s:=sName) (.inl ⟨rfl,rfl⟩)
 go_upto_region 3 with (go_at_call 132;refine Calls.mono HD1.out ?_;rintro e v1 (⟨us1,ws1,vl1,rfl,hsp1,hw1,hT1,hC1,x1,hu1,hx1,rfl⟩|⟨p,rfl,hw1,hC1⟩);rotate_left;exact And.intro rfl (Ot.bad (ts:=k::us0) (st:=[k.sym,sName,[58],sInt]) (ws:=us0) (st2:=[sName,[58],sInt]) (fun r=>HW0.out r) HC0.out (fun r=>hw1.out ([[58],sInt]++r)) hC1);replace hu1:Hid _:=hu1;replace hx1:Hid _:=hx1;unfold tkV)
 have ka1:=kept_alloc 0 0 v1 (.cells #[.int .i64 (cvT x1).kind,strL (cvT x1).text,.int .i64 ((cvT x1).at_:Int)] 106)
 have HW1:Hid (∀r,wrongM E.t.length (k::us0) ([k.sym,sName,[58],sInt]++r)=wrongM E.t.length ws1 ([[58],sInt]++r)):=fun r=>(HW0.out r).trans (hw1.out ([[58],sInt]++r))
 have HS1:Hid (Ch E w0 (v1.alloc (.cells #[.int .i64 (cvT x1).kind,strL (cvT x1).text,.int .i64 ((cvT x1).at_:Int)] 106))):=hC1.andThen ka1.chg
 have HC1:Hid (Ch E w (v1.alloc (.cells #[.int .i64 (cvT x1).kind,strL (cvT x1).text,.int .i64 ((cvT x1).at_:Int)] 106))):=HC0.out.andThen HS1.out
 have HP1:Hid (Ps E (v1.alloc (.cells #[.int .i64 (cvT x1).kind,strL (cvT x1).text,.int .i64 ((cvT x1).at_:Int)] 106)) ws1):=hT1.keep ka1
 have HBxx1:Hid (TBx (v1.alloc (.cells #[.int .i64 (cvT x1).kind,strL (cvT x1).text,.int .i64 ((cvT x1).at_:Int)] 106)) v1.heap.size x1):=TBx.new v1 x1
 have HBlx1:Hid (w.heap.size≤v1.heap.size):=(HC0.out.andThen hC1).size
 clear hT1 hC1 hw1 HD1 ka1
 generalize (v1.alloc (.cells #[.int .i64 (cvT x1).kind,strL (cvT x1).text,.int .i64 ((cvT x1).at_:Int)] 106))=w1 at*
 generalize v1.heap.size=b1 at*
 have HD2:Hid _:=takeMarkS HP1.out (s:=[58]) (by decide)
 go_upto_region 4 with (go_at_call 99;refine Calls.mono HD2.out ?_;rintro e v2 (⟨us2,ws2,vl2,rfl,hsp2,hw2,hT2,hC2,x2,hu2,hx2,rfl⟩|⟨p,rfl,hw2,hC2⟩);rotate_left;exact And.intro rfl (Ot.bad (ts:=k::us0) (st:=[k.sym,sName,[58],sInt]) (ws:=ws1) (st2:=[[58],sInt]) (fun r=>HW1.out r) HC1.out (fun r=>hw2.out ([sInt]++r)) hC2);replace hu2:Hid _:=hu2;replace hx2:Hid _:=hx2;unfold tkV)
 have HW2:Hid (∀r,wrongM E.t.length (k::us0) ([k.sym,sName,[58],sInt]++r)=wrongM E.t.length ws2 ([sInt]++r)):=fun r=>(HW1.out r).trans (hw2.out ([sInt]++r))
 have HS2:Hid (Ch E w1 v2):=hC2
 have HC2:Hid (Ch E w v2):=HC1.out.andThen HS2.out
 have HP2:Hid (Ps E v2 ws2):=hT2
 replace HBxx1:Hid (TBx v2 b1 x1):=HBxx1.out.ch HS2.out (Nat.lt_of_lt_of_le HPw.out HBlx1.out)
 clear hT2 hC2 hw2 HD2
 have sx10:=HBxx1.out.c0
 have sx11:=HBxx1.out.c1
 have sx12:=HBxx1.out.c2
 have sx13:=HBxx1.out.lt
 have HBb:Hid (∀w9,Ch E v2 w9→TBx w9 b1 x1):=fun w9 c=>HBxx1.out.ch c (Nat.lt_of_lt_of_le HPw.out HBlx1.out)
 go_region_with (go_at_call 132;refine Calls.mono (takeKindS (HP2.out.keep (kept_drew _)) (kd:=4) (s:=sInt) (.inr ⟨rfl,rfl⟩)) ?_;rintro e w9 (⟨us9,ws9,v9,rfl,hsp9,hw9,hT9,hC9,x9,hu9,hx9,rfl⟩|⟨p,rfl,hw9,hC9⟩);rotate_left;exact And.intro rfl (Ot.bad (ts:=k::us0) (st:=[k.sym,sName,[58],sInt]) (ws:=ws2) (st2:=[sInt]) (fun r=>HW2.out r) (HC2.out.andThen (kept_drew _).chg) (fun r=>hw9.out r) hC9);obtain zx1:=HBb.out w9 ((kept_drew _).chg.andThen hC9);have qx10:=zx1.c0;have qx11:=zx1.c1;have qx12:=zx1.c2;have qx13:=zx1.lt;replace hu9:Hid _:=hu9;replace hx9:Hid _:=hx9;unfold tkV)
 all_goals
  have hC9':Ch E w w9:=(HC2.out.andThen (kept_drew _).chg).andThen hC9
  go_wp2
  refine bodyPost_ret (v:=.iface 223 (.agg #[.int .i64 (cvT x1).kind,strL (cvT x1).text,.int .i64 ((cvT x1).at_:Int),.int .i64 (cvT x9).kind,strL (cvT x9).text,.int .i64 ((cvT x9).at_:Int)])) (by simp[results,Tryz.results92,go_sem]) rfl ?_
  exact .inl ⟨[k,x1,x2,x9],ws9,_,rfl,by show _=_;rw[hsp1.out,hu1.out,hsp2.out,hu2.out,hsp9.out,hu9.out];simp,fun r=>(HW2.out r).trans (hw9.out r),hT9,hC9',_,.inS HKs.out hx1.out hx2.out hx9.out,.inS⟩
theorem letStS {E:Pe}{w:World}{k:Tok}{us0:List Tok}(f:Ps E w (k::us0))(hk:k.sym=kLet):Calls Tryz.prog 93 #[.pointer (some ⟨E.P,0,none⟩)] w (Ot E w (k::us0) [k.sym,sName,[61],pEXPR] (GSt w)):=by
 have HT:Hid _:=takeS f (by rw[hk];decide)
 have HPw:Hid (E.P<w.heap.size):=f.nw.1
 have HKs:Hid (k.sym=kLet):=hk
 have HW0:Hid (∀r,wrongM E.t.length (k::us0) ([k.sym,sName,[61],pEXPR]++r)=wrongM E.t.length us0 ([sName,[61],pEXPR]++r)):=fun r=>wrong_yes (by rw[hk];decide) rfl _
 clear f hk
 go_enter Tryz.func93,Tryz.ntmps93
 go_upto_region 2 with (go_at_call 96;refine Calls.mono HT.out ?_;rintro e w0 ⟨rfl,hT0,hC0⟩)
 have HC0:Hid (Ch E w w0):=hC0
 have HP0:Hid (Ps E w0 us0):=hT0
 clear hT0 hC0 HT
 have HD1:Hid _:=takeKindS HP0.out (kd:=2) (s:=sName) (.inl ⟨rfl,rfl⟩)
 go_upto_region 3 with (go_at_call 132;refine Calls.mono HD1.out ?_;rintro e v1 (⟨us1,ws1,vl1,rfl,hsp1,hw1,hT1,hC1,x1,hu1,hx1,rfl⟩|⟨p,rfl,hw1,hC1⟩);rotate_left;exact And.intro rfl (Ot.bad (ts:=k::us0) (st:=[k.sym,sName,[61],pEXPR]) (ws:=us0) (st2:=[sName,[61],pEXPR]) (fun r=>HW0.out r) HC0.out (fun r=>hw1.out ([[61],pEXPR]++r)) hC1);replace hu1:Hid _:=hu1;replace hx1:Hid _:=hx1;unfold tkV)
 have ka1:=kept_alloc 0 0 v1 (.cells #[.int .i64 (cvT x1).kind,strL (cvT x1).text,.int .i64 ((cvT x1).at_:Int)] 106)
 have HW1:Hid (∀r,wrongM E.t.length (k::us0) ([k.sym,sName,[61],pEXPR]++r)=wrongM E.t.length ws1 ([[61],pEXPR]++r)):=fun r=>(HW0.out r).trans (hw1.out ([[61],pEXPR]++r))
 have HS1:Hid (Ch E w0 (v1.alloc (.cells #[.int .i64 (cvT x1).kind,strL (cvT x1).text,.int .i64 ((cvT x1).at_:Int)] 106))):=hC1.andThen ka1.chg
 have HC1:Hid (Ch E w (v1.alloc (.cells #[.int .i64 (cvT x1).kind,strL (cvT x1).text,.int .i64 ((cvT x1).at_:Int)] 106))):=HC0.out.andThen HS1.out
 have HP1:Hid (Ps E (v1.alloc (.cells #[.int .i64 (cvT x1).kind,strL (cvT x1).text,.int .i64 ((cvT x1).at_:Int)] 106)) ws1):=hT1.keep ka1
 have HBxx1:Hid (TBx (v1.alloc (.cells #[.int .i64 (cvT x1).kind,strL (cvT x1).text,.int .i64 ((cvT x1).at_:Int)] 106)) v1.heap.size x1):=TBx.new v1 x1
 have HBlx1:Hid (w.heap.size≤v1.heap.size):=(HC0.out.andThen hC1).size
 clear hT1 hC1 hw1 HD1 ka1
 generalize (v1.alloc (.cells #[.int .i64 (cvT x1).kind,strL (cvT x1).text,.int .i64 ((cvT x1).at_:Int)] 106))=w1 at*
 generalize v1.heap.size=b1 at*
 have HD2:Hid _:=takeMarkS HP1.out (s:=[61]) (by decide)
 go_upto_region 4 with (go_at_call 99;refine Calls.mono HD2.out ?_;rintro e v2 (⟨us2,ws2,vl2,rfl,hsp2,hw2,hT2,hC2,x2,hu2,hx2,rfl⟩|⟨p,rfl,hw2,hC2⟩);rotate_left;exact And.intro rfl (Ot.bad (ts:=k::us0) (st:=[k.sym,sName,[61],pEXPR]) (ws:=ws1) (st2:=[[61],pEXPR]) (fun r=>HW1.out r) HC1.out (fun r=>hw2.out ([pEXPR]++r)) hC2);replace hu2:Hid _:=hu2;replace hx2:Hid _:=hx2;unfold tkV)
 have HW2:Hid (∀r,wrongM E.t.length (k::us0) ([k.sym,sName,[61],pEXPR]++r)=wrongM E.t.length ws2 ([pEXPR]++r)):=fun r=>(HW1.out r).trans (hw2.out ([pEXPR]++r))
 have HS2:Hid (Ch E w1 v2):=hC2
 have HC2:Hid (Ch E w v2):=HC1.out.andThen HS2.out
 have HP2:Hid (Ps E v2 ws2):=hT2
 replace HBxx1:Hid (TBx v2 b1 x1):=HBxx1.out.ch HS2.out (Nat.lt_of_lt_of_le HPw.out HBlx1.out)
 clear hT2 hC2 hw2 HD2
 have sx10:=HBxx1.out.c0
 have sx11:=HBxx1.out.c1
 have sx12:=HBxx1.out.c2
 have sx13:=HBxx1.out.lt
 have HBb:Hid (∀w9,Ch E v2 w9→TBx w9 b1 x1):=fun w9 c=>HBxx1.out.ch c (Nat.lt_of_lt_of_le HPw.out HBlx1.out)
 go_region_with (go_at_call 97;refine Calls.mono (expr_all (HP2.out.keep (kept_drew _))) ?_;rintro e w9 (⟨us9,ws9,v9,rfl,hsp9,hw9,hT9,hC9,e9,hp9,hn9⟩|⟨p,rfl,hw9,hC9⟩);rotate_left;exact And.intro rfl (Ot.bad (ts:=k::us0) (st:=[k.sym,sName,[61],pEXPR]) (ws:=ws2) (st2:=[pEXPR]) (fun r=>HW2.out r) (HC2.out.andThen (kept_drew _).chg) (fun r=>hw9.out r) hC9);obtain zx1:=HBb.out w9 ((kept_drew _).chg.andThen hC9);have qx10:=zx1.c0;have qx11:=zx1.c1;have qx12:=zx1.c2;have qx13:=zx1.lt;obtain⟨T9,y9,rfl⟩:=hn9.iface)
 all_goals
  have hC9':Ch E w w9:=(HC2.out.andThen (kept_drew _).chg).andThen hC9
  go_wp2
  refine bodyPost_ret (v:=.iface 225 (.agg #[.int .i64 (cvT x1).kind,strL (cvT x1).text,.int .i64 ((cvT x1).at_:Int),.iface T9 y9])) (by simp[results,Tryz.results93,go_sem]) rfl ?_
  exact .inl ⟨k::x1::x2::us9,ws9,_,rfl,by show _=_;rw[hsp1.out,hu1.out,hsp2.out,hu2.out,hsp9.out];simp,fun r=>(HW2.out r).trans (hw9.out r),hT9,hC9',_,.letS HKs.out hx1.out hx2.out hp9,.letS (hn9.fr HC2.out.size)⟩
end Go.Proofs.YtgamjhpebmmjcaaGreatDoor
namespace Go.Proofs.YtgamjhpebmmjcaaGreatDoor
set_option maxRecDepth 100000
set_option maxHeartbeats 40000000
open Go.RowKit Flt
attribute [local go_sem] alloc_drewN setCell_drewN run_store_float fld0 fld1 fld2 mkF
theorem repStS {E:Pe}{w:World}{k:Tok}{us0:List Tok}(f:Ps E w (k::us0))(hk:k.sym=kRep):Calls Tryz.prog 94 #[.pointer (some ⟨E.P,0,none⟩)] w (Ot E w (k::us0) [k.sym,sInt,sName,[61],pEXPR] (GSt w)):=by
 have HT:Hid _:=takeS f (by rw[hk];decide)
 have HPw:Hid (E.P<w.heap.size):=f.nw.1
 have HKs:Hid (k.sym=kRep):=hk
 have HW0:Hid (∀r,wrongM E.t.length (k::us0) ([k.sym,sInt,sName,[61],pEXPR]++r)=wrongM E.t.length us0 ([sInt,sName,[61],pEXPR]++r)):=fun r=>wrong_yes (by rw[hk];decide) rfl _
 clear f hk
 go_enter Tryz.func94,Tryz.ntmps94
 go_upto_region 2 with (go_at_call 96;refine Calls.mono HT.out ?_;rintro e w0 ⟨rfl,hT0,hC0⟩)
 have HC0:Hid (Ch E w w0):=hC0
 have HP0:Hid (Ps E w0 us0):=hT0
 clear hT0 hC0 HT
 have HD1:Hid _:=takeKindS HP0.out (kd:=4) (s:=sInt) (.inr ⟨rfl,rfl⟩)
 go_upto_region 3 with (go_at_call 132;refine Calls.mono HD1.out ?_;rintro e v1 (⟨us1,ws1,vl1,rfl,hsp1,hw1,hT1,hC1,x1,hu1,hx1,rfl⟩|⟨p,rfl,hw1,hC1⟩);rotate_left;exact And.intro rfl (Ot.bad (ts:=k::us0) (st:=[k.sym,sInt,sName,[61],pEXPR]) (ws:=us0) (st2:=[sInt,sName,[61],pEXPR]) (fun r=>HW0.out r) HC0.out (fun r=>hw1.out ([sName,[61],pEXPR]++r)) hC1);replace hu1:Hid _:=hu1;replace hx1:Hid _:=hx1;unfold tkV)
 have ka1:=kept_alloc 0 0 v1 (.cells #[.int .i64 (cvT x1).kind,strL (cvT x1).text,.int .i64 ((cvT x1).at_:Int)] 106)
 have HW1:Hid (∀r,wrongM E.t.length (k::us0) ([k.sym,sInt,sName,[61],pEXPR]++r)=wrongM E.t.length ws1 ([sName,[61],pEXPR]++r)):=fun r=>(HW0.out r).trans (hw1.out ([sName,[61],pEXPR]++r))
 have HS1:Hid (Ch E w0 (v1.alloc (.cells #[.int .i64 (cvT x1).kind,strL (cvT x1).text,.int .i64 ((cvT x1).at_:Int)] 106))):=hC1.andThen ka1.chg
 have HC1:Hid (Ch E w (v1.alloc (.cells #[.int .i64 (cvT x1).kind,strL (cvT x1).text,.int .i64 ((cvT x1).at_:Int)] 106))):=HC0.out.andThen HS1.out
 have HP1:Hid (Ps E (v1.alloc (.cells #[.int .i64 (cvT x1).kind,strL (cvT x1).text,.int .i64 ((cvT x1).at_:Int)] 106)) ws1):=hT1.keep ka1
 have HBxx1:Hid (TBx (v1.alloc (.cells #[.int .i64 (cvT x1).kind,strL (cvT x1).text,.int .i64 ((cvT x1).at_:Int)] 106)) v1.heap.size x1):=TBx.new v1 x1
 have HBlx1:Hid (w.heap.size≤v1.heap.size):=(HC0.out.andThen hC1).size
 clear hT1 hC1 hw1 HD1 ka1
 generalize (v1.alloc (.cells #[.int .i64 (cvT x1).kind,strL (cvT x1).text,.int .i64 ((cvT x1).at_:Int)] 106))=w1 at*
 generalize v1.heap.size=b1 at*
 have HD2:Hid _:=takeKindS HP1.out (kd:=2) (s:=sName) (.inl ⟨rfl,rfl⟩)
 go_upto_region 4 with (go_at_call 132;refine Calls.mono HD2.out ?_;rintro e v2 (⟨us2,ws2,vl2,rfl,hsp2,hw2,hT2,hC2,x2,hu2,hx2,rfl⟩|⟨p,rfl,hw2,hC2⟩);rotate_left;exact And.intro rfl (Ot.bad (ts:=k::us0) (st:=[k.sym,sInt,sName,[61],pEXPR]) (ws:=ws1) (st2:=[sName,[61],pEXPR]) (fun r=>HW1.out r) HC1.out (fun r=>hw2.out ([[61],pEXPR]++r)) hC2);replace hu2:Hid _:=hu2;replace hx2:Hid _:=hx2;unfold tkV)
 have ka2:=kept_alloc 0 0 v2 (.cells #[.int .i64 (cvT x2).kind,strL (cvT x2).text,.int .i64 ((cvT x2).at_:Int)] 106)
 have HW2:Hid (∀r,wrongM E.t.length (k::us0) ([k.sym,sInt,sName,[61],pEXPR]++r)=wrongM E.t.length ws2 ([[61],pEXPR]++r)):=fun r=>(HW1.out r).trans (hw2.out ([[61],pEXPR]++r))
 have HS2:Hid (Ch E w1 (v2.alloc (.cells #[.int .i64 (cvT x2).kind,strL (cvT x2).text,.int .i64 ((cvT x2).at_:Int)] 106))):=hC2.andThen ka2.chg
 have HC2:Hid (Ch E w (v2.alloc (.cells #[.int .i64 (cvT x2).kind,strL (cvT x2).text,.int .i64 ((cvT x2).at_:Int)] 106))):=HC1.out.andThen HS2.out
 have HP2:Hid (Ps E (v2.alloc (.cells #[.int .i64 (cvT x2).kind,strL (cvT x2).text,.int .i64 ((cvT x2).at_:Int)] 106)) ws2):=hT2.keep ka2
 replace HBxx1:Hid (TBx (v2.alloc (.cells #[.int .i64 (cvT x2).kind,strL (cvT x2).text,.int .i64 ((cvT x2).at_:Int)] 106)) b1 x1):=HBxx1.out.ch HS2.out (Nat.lt_of_lt_of_le HPw.out HBlx1.out)
 have HBxx2:Hid (TBx (v2.alloc (.cells #[.int .i64 (cvT x2).kind,strL (cvT x2).text,.int .i64 ((cvT x2).at_:Int)] 106)) v2.heap.size x2):=TBx.new v2 x2
 have HBlx2:Hid (w.heap.size≤v2.heap.size):=(HC1.out.andThen hC2).size
 clear hT2 hC2 hw2 HD2 ka2
 generalize (v2.alloc (.cells #[.int .i64 (cvT x2).kind,strL (cvT x2).text,.int .i64 ((cvT x2).at_:Int)] 106))=w2 at*
 generalize v2.heap.size=b2 at*
 have HD3:Hid _:=takeMarkS HP2.out (s:=[61]) (by decide)
 go_upto_region 5 with (go_at_call 99;refine Calls.mono HD3.out ?_;rintro e v3 (⟨us3,ws3,vl3,rfl,hsp3,hw3,hT3,hC3,x3,hu3,hx3,rfl⟩|⟨p,rfl,hw3,hC3⟩);rotate_left;exact And.intro rfl (Ot.bad (ts:=k::us0) (st:=[k.sym,sInt,sName,[61],pEXPR]) (ws:=ws2) (st2:=[[61],pEXPR]) (fun r=>HW2.out r) HC2.out (fun r=>hw3.out ([pEXPR]++r)) hC3);replace hu3:Hid _:=hu3;replace hx3:Hid _:=hx3;unfold tkV)
 have HW3:Hid (∀r,wrongM E.t.length (k::us0) ([k.sym,sInt,sName,[61],pEXPR]++r)=wrongM E.t.length ws3 ([pEXPR]++r)):=fun r=>(HW2.out r).trans (hw3.out ([pEXPR]++r))
 have HS3:Hid (Ch E w2 v3):=hC3
 have HC3:Hid (Ch E w v3):=HC2.out.andThen HS3.out
 have HP3:Hid (Ps E v3 ws3):=hT3
 replace HBxx1:Hid (TBx v3 b1 x1):=HBxx1.out.ch HS3.out (Nat.lt_of_lt_of_le HPw.out HBlx1.out)
 replace HBxx2:Hid (TBx v3 b2 x2):=HBxx2.out.ch HS3.out (Nat.lt_of_lt_of_le HPw.out HBlx2.out)
 clear hT3 hC3 hw3 HD3
 have sx10:=HBxx1.out.c0
 have sx11:=HBxx1.out.c1
 have sx12:=HBxx1.out.c2
 have sx13:=HBxx1.out.lt
 have sx20:=HBxx2.out.c0
 have sx21:=HBxx2.out.c1
 have sx22:=HBxx2.out.c2
 have sx23:=HBxx2.out.lt
 have HBb:Hid (∀w9,Ch E v3 w9→TBx w9 b1 x1∧TBx w9 b2 x2):=fun w9 c=>⟨HBxx1.out.ch c (Nat.lt_of_lt_of_le HPw.out HBlx1.out),HBxx2.out.ch c (Nat.lt_of_lt_of_le HPw.out HBlx2.out)⟩
 go_region_with (go_at_call 97;refine Calls.mono (expr_all (HP3.out.keep (kept_drew _))) ?_;rintro e w9 (⟨us9,ws9,v9,rfl,hsp9,hw9,hT9,hC9,e9,hp9,hn9⟩|⟨p,rfl,hw9,hC9⟩);rotate_left;exact And.intro rfl (Ot.bad (ts:=k::us0) (st:=[k.sym,sInt,sName,[61],pEXPR]) (ws:=ws3) (st2:=[pEXPR]) (fun r=>HW3.out r) (HC3.out.andThen (kept_drew _).chg) (fun r=>hw9.out r) hC9);obtain⟨zx1,zx2⟩:=HBb.out w9 ((kept_drew _).chg.andThen hC9);have qx10:=zx1.c0;have qx11:=zx1.c1;have qx12:=zx1.c2;have qx13:=zx1.lt;have qx20:=zx2.c0;have qx21:=zx2.c1;have qx22:=zx2.c2;have qx23:=zx2.lt;obtain⟨T9,y9,rfl⟩:=hn9.iface)
 all_goals
  have hC9':Ch E w w9:=(HC3.out.andThen (kept_drew _).chg).andThen hC9
  go_wp2
  refine bodyPost_ret (v:=.iface 227 (.agg #[.int .i64 (cvT x1).kind,strL (cvT x1).text,.int .i64 ((cvT x1).at_:Int),.int .i64 (cvT x2).kind,strL (cvT x2).text,.int .i64 ((cvT x2).at_:Int),.iface T9 y9])) (by simp[results,Tryz.results94,go_sem]) rfl ?_
  exact .inl ⟨k::x1::x2::x3::us9,ws9,_,rfl,by show _=_;rw[hsp1.out,hu1.out,hsp2.out,hu2.out,hsp3.out,hu3.out,hsp9.out];simp,fun r=>(HW3.out r).trans (hw9.out r),hT9,hC9',_,.rep HKs.out hx1.out hx2.out hx3.out hp9,.rep (hn9.fr HC3.out.size)⟩
end Go.Proofs.YtgamjhpebmmjcaaGreatDoor
